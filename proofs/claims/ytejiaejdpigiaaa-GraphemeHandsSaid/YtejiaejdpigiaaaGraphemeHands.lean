/- GraphemeHands (16.1, 16.2) answers true at every row of numbers and every number, and turns nothing. No condition. -/
import Derived.Test.YtejiaejdpigiaaaMg7
import Derived.Test.YtejiaejdpigiaaaMg1
import Derived.Test.YtejiaejdpigiaaaRows
import Derived.ProofKit
namespace Go.Proofs.Ytejiaejdpigiaaa.lawGraphemeHands
open Go.ChangeShapes Go.WideShapes Go.ChangeAt Go.RowKit
attribute [local go_sem] Oper.semAt_some
/-- Between two rounds, and when one was left. -/
def HandI (W : World) (b3 b4 b5 b6 lo : Nat) (xs : List Int) (M : Int) (stop : Bool) (hi : Nat) (pre : List Cu) (w' : World) : Prop :=
  lo ≤ hi ∧ Has w' b3 [.int .i64 M] 3 ∧ Has w' b4 [.bool false] 4 ∧ Below W.heap.size W w' ∧ hi ≤ w'.heap.size ∧ ∃ va k, k ≤ (clS xs).length ∧ (stop = false → k = pre.length ∧ pre.map Cu.p = (clS xs).take k) ∧ (stop = true → M = (k : Int)) ∧ Has w' b6 [.int .i64 (k : Int)] 3 ∧ Has w' b5 [va] 22 ∧ OwnE (intE .i32) (fun _ => True) w' hi 21 va (xs.take (endC xs k))
theorem HandI.upd {W : World} {b3 b4 b5 b6 lo : Nat} {xs : List Int} {M : Int} {stop : Bool} {hi : Nat} {pre : List Cu} {w w' : World} {S : Zone} (h : HandI W b3 b4 b5 b6 lo xs M stop hi pre w) (hu : Upd S w w') (hs : ∀ b, S b → W.heap.size ≤ b ∧ b < hi ∧ b ≠ b3 ∧ b ≠ b4 ∧ b ≠ b5 ∧ b ≠ b6) : HandI W b3 b4 b5 b6 lo xs M stop hi pre w' := by
  obtain ⟨h1, h2, h3, h4, h5, va, k, h6, h7, h7b, h8, h9, h10⟩ := h
  have nn : ∀ {b}, (b = b3 ∨ b = b4 ∨ b = b5 ∨ b = b6) → ¬ S b := fun e hb => by obtain ⟨_, _, q3, q4, q5, q6⟩ := hs _ hb; rcases e with e | e | e | e <;> contradiction
  refine ⟨h1, hu.keep.has h2 (nn (.inl rfl)), hu.keep.has h3 (nn (.inr (.inl rfl))), h4.upd hu h4.size (fun b hb => (hs b hb).1), Nat.le_trans h5 hu.size, va, k, h6, h7, h7b, hu.keep.has h8 (nn (.inr (.inr (.inr rfl)))), hu.keep.has h9 (nn (.inr (.inr (.inl rfl)))), ownE_ints (hu.keep.own h10.ints (fun b hb e => ?_))⟩
  have := hs b e
  have := (h10.lt b hb).1
  omega
set_option maxRecDepth 100000 in
set_option maxHeartbeats 4000000 in
theorem walkN (W : World) (v : Value) (xs : List Int) (M : Int) (hv : HeldE (intE .i32) (fun b => b < W.heap.size) W v xs) (hn : xs.length ≤ 1000) : Calls Try.prog 4 #[v, .int .i64 M] W (Yes W) := by
  have hh := hv.ints
  obtain ⟨ao, ca, rfl, hcap, hmax, _⟩ := id hv
  obtain ⟨n, hnn⟩ : ∃ n, n = xs.length := ⟨_, rfl⟩
  have HN := Lib.hid hnn
  have HQ := Lib.hid (show ∀ w', Below W.heap.size W w' → Held .i32 w' (.slice ao n ca) xs from fun w' b => by rw [hnn]; exact hh.below b)
  have HQE := Lib.hid (show ∀ w', Below W.heap.size W w' → HeldE (intE .i32) (fun b => b < W.heap.size) w' (.slice ao n ca) xs from fun w' b => by rw [hnn]; exact hv.below b)
  rw [← hnn] at hn hcap ⊢
  have hd : decide ((1000 : Int) < n) = false := by rw [decide_eq_false_iff_not]; omega
  have hdn : decide (1000 < n) = false := by rw [decide_eq_false_iff_not]; omega
  clear hv hh hnn hmax
  obtain ⟨W1, hW1⟩ : ∃ W1, W1 = (W.alloc (.cells #[.int .i64 M] 3)).alloc (.cells #[.bool false] 4) := ⟨_, rfl⟩
  have HB1 := Lib.hid (show Below W.heap.size W W1 from by rw [hW1]; exact ((Below.refl _ _).alloc (Nat.le_refl _) _).alloc (by simp) _)
  have H3 := Lib.hid (show Has W1 W.heap.size [.int .i64 M] 3 from by rw [hW1]; exact (Has.new W [.int .i64 M] 3).alloc _)
  have H4 := Lib.hid (show Has W1 (W.heap.size + 1) [.bool false] 4 from by rw [hW1]; have := Has.new (W.alloc (.cells #[.int .i64 M] 3)) [.bool false] 4; rw [World.size_alloc] at this; exact this)
  have HW1 := Lib.hid hW1
  clear hW1
  refine (callsIn_wide (n := 9)).1 ?_
  refine callsIn_of_wp_marks Try.func4 rfl trivial ?_ rfl
  simp only [Try.ntmps4, List.size_toArray, List.length_cons, List.length_nil, Nat.reduceAdd, Nat.reduceSub, Array.replicate_succ, Array.replicate_zero, List.push_toArray, List.append_toArray, List.nil_append, List.cons_append]
  gi_upto_region 1 with (fail)
  rw [← HW1.out]
  gi_wp2_with fail
  first | refine ⟨trivial, (fun h => absurd h (by decide)), (callsIn_wide.2 (works16_any W1)).mono ?_⟩ | refine ⟨trivial, (callsIn_wide.2 (works16_any W1)).mono ?_⟩
  rintro e w1 ⟨rfl, b1⟩
  replace H3 := Lib.hid (H3.out.below b1 H3.out.lt)
  replace H4 := Lib.hid (H4.out.below b1 H4.out.lt)
  replace HB1 := Lib.hid (HB1.out.trans (b1.mono HB1.out.size))
  clear b1 HW1
  obtain ⟨b5, hb5⟩ : ∃ b5, b5 = w1.heap.size := ⟨_, rfl⟩
  obtain ⟨W2, hW2⟩ : ∃ W2, W2 = (w1.alloc (.cells #[.slice none 0 0] 22)).alloc (.cells #[.int .i64 0] 3) := ⟨_, rfl⟩
  have hbw : Below w1.heap.size w1 W2 := by rw [hW2]; exact ((Below.refl _ _).alloc (Nat.le_refl _) _).alloc (by simp) _
  have H5 := Lib.hid (show Has W2 b5 [.slice none 0 0] 22 from by rw [hW2, hb5]; exact (Has.new w1 [.slice none 0 0] 22).alloc _)
  have H6 := Lib.hid (show Has W2 (b5 + 1) [.int .i64 0] 3 from by rw [hW2, hb5]; have := Has.new (w1.alloc (.cells #[.slice none 0 0] 22)) [.int .i64 0] 3; rw [World.size_alloc] at this; exact this)
  have HSZ := Lib.hid (show W2.heap.size = b5 + 2 from by rw [hW2, hb5]; simp)
  have HLT := Lib.hid (show W.heap.size + 1 < b5 from by rw [hb5]; exact H4.out.lt)
  replace H3 := Lib.hid (H3.out.below hbw H3.out.lt)
  replace H4 := Lib.hid (H4.out.below hbw H4.out.lt)
  replace HB1 := Lib.hid (HB1.out.trans (hbw.mono HB1.out.size))
  have HW2 := Lib.hid hW2
  have HB5 := Lib.hid hb5
  clear hbw hb5 hW2
  gi_upto_region 5 with (fail)
  clear hd hdn
  rw [← HB5.out]
  rw [← HW2.out]
  clear HW2
  gi_wp2_with fail
  first | refine ⟨trivial, (fun h => absurd h (by decide)), (callsIn_wide.2 (gall_any _ xs W2 (HQ.out W2 HB1.out) (by rw [← HN.out]; omega))).mono ?_⟩ | refine ⟨trivial, (callsIn_wide.2 (gall_any _ xs W2 (HQ.out W2 HB1.out) (by rw [← HN.out]; omega))).mono ?_⟩
  rintro e w3 ⟨B, vk, rfl, hB, hk, b3, hBl⟩
  replace H3 := Lib.hid (H3.out.below b3 H3.out.lt)
  replace H4 := Lib.hid (H4.out.below b3 H4.out.lt)
  replace H5 := Lib.hid (H5.out.below b3 H5.out.lt)
  replace H6 := Lib.hid (H6.out.below b3 H6.out.lt)
  replace HB1 := Lib.hid (HB1.out.trans (b3.mono HB1.out.size))
  have HS3 := Lib.hid (show b5 + 2 ≤ w3.heap.size from by rw [← HSZ.out]; exact b3.size)
  clear b3 hBl
  have h1 : 1 ≤ 9 := by decide
  gi_wp2_with fail
  refine wpIn_rangeO rfl h1 (gf := 56) (lb := #[.pointer (some ⟨B, 0, none⟩)]) rfl trivial (enters_of Try.func56 (by kernel_rfl) rfl) (gall1_in B vk xs w3 hB hk (by rw [← HN.out]; omega) _ (fun b => b = b5 ∨ b = b5 + 1)) (Below.refl _ _) (fun _ => rfl) (fun b e => by have := HS3.out; omega)
    (HandI W W.heap.size (W.heap.size + 1) b5 (b5 + 1) (w3.heap.size + 2) xs M false) (fun hi c pre w => c = .exit 0 ∧ HandI W W.heap.size (W.heap.size + 1) b5 (b5 + 1) (w3.heap.size + 2) xs M true hi pre w) ?hI ?hIx ?h0 (fun x => { tmps := #[.slice ao n ca, .int .i64 M, undef, .pointer (some ⟨W.heap.size, 0, none⟩), .pointer (some ⟨W.heap.size + 1, 0, none⟩), .pointer (some ⟨b5, 0, none⟩), .pointer (some ⟨b5 + 1, 0, none⟩), .int .i64 (x.p.1 : Int), x.v, .bool true, .bool false, .bool false, .slice ao n ca, .int .i64 n, .bool false, .bool false, undef, .slice ao n ca, .func (.func 56) #[] #[.pointer (some ⟨B, 0, none⟩)], .int .i64 (x.p.1 : Int), x.v, undef, undef, undef, undef, undef, undef, undef, undef, undef, undef, undef, undef, undef, undef, undef, undef, undef, undef, undef, undef, undef, undef, undef, undef, undef, undef, undef, undef, undef, undef, undef, undef, undef, undef, undef, undef, undef, undef, undef, undef], defers := [] }) ?assign ?body ?done ?stop
  case hI =>
    intro hi pre A A' h hu
    exact h.upd hu (fun b hb => by have := HLT.out; have := HS3.out; omega)
  case hIx =>
    rintro hi c pre A A' ⟨hc, h⟩ hu
    exact ⟨hc, h.upd hu (fun b hb => by have := HLT.out; have := HS3.out; omega)⟩
  case h0 =>
    intro hi W9 hb h1 h2
    exact ⟨h1, H3.out.below hb H3.out.lt, H4.out.below hb H4.out.lt, HB1.out.trans (hb.mono HB1.out.size), h2, _, 0, Nat.zero_le _, fun _ => ⟨rfl, rfl⟩, fun e => absurd e (by decide), H6.out.below hb H6.out.lt, H5.out.below hb H5.out.lt, by rw [endC_zero]; exact OwnE.nil _ _ _ _ _⟩
  case assign =>
    intro l x W K hK
    unfold encCu
    gi_wp2
    exact hK
  case done =>
    rintro hi ys w4 hS ⟨q1, q2, q3, q4, q5, va, k, q6, q7, q7b, q8, q9, q10⟩ hK
    obtain ⟨hk, hpre⟩ := q7 rfl
    have hkl : k = (clS xs).length := by
      have h9 := congrArg List.length hS
      rw [List.length_map, ← hk] at h9
      exact h9
    have HEND : endC xs k = n := by rw [hkl, endC_last, ← HN.out]
    clear hk hpre hS hkl
    by_cases hM : ((k : Int) == M) = true
    · clear HEND
      have HE4 := Lib.hid (show W.heap.size + 1 < b5 ∧ b5 + 2 ≤ w3.heap.size from ⟨HLT.out, HS3.out⟩)
      have hel := endC_le xs k (by omega)
      obtain ⟨e, he⟩ : ∃ e, e = endC xs k := ⟨_, rfl⟩
      rw [← he] at q10 hel
      have hxl : (xs.take e).length = e := by rw [List.length_take]; omega
      have HTK := Lib.hid (show (xs.take e).length ≤ 9223372036854775807 from by rw [hxl]; have := HN.out; omega)
      obtain ⟨XA, hXA⟩ : ∃ XA, XA = xs.take e := ⟨_, rfl⟩
      have HXA := Lib.hid hXA
      rw [← hXA] at q10 hxl HTK
      have HO := Lib.hid (q10.held (Z := fun b => hi ≤ b) (fun b h _ => h)).ints
      obtain ⟨a5, k5, hva⟩ := HO.out.len
      rw [hxl] at hva
      have hen : e ≤ n := by rw [HN.out]; exact hel
      have c5 := q9.cell 0 _ rfl
      rw [hva] at c5 HO
      have HH3 := Lib.hid q2
      have HH4 := Lib.hid q3
      have HH5 := Lib.hid q9
      have HH6 := Lib.hid q8
      have HBW := Lib.hid q4
      rw [hva] at HH5
      have HK := Lib.hid hK
      have HXL := Lib.hid hxl
      have hgt : decide ((n : Int) < e) = false := by rw [decide_eq_false_iff_not]; omega
      have hgtn : decide (n < e) = false := by rw [decide_eq_false_iff_not]; omega
      have HHI := Lib.hid q1
      have hlh : e ≤ ca := by omega
      have hkm : ((k : Int) == M) = true := hM
      clear q1 q2 q3 q4 q5 q6 q7 q7b q8 q9 q10 hva hXA he hxl hK hel
      gi_upto_region 15 with (fail)
      obtain ⟨Ergd, hErgd⟩ : ∃ EE : Nat → Value → World → Prop, EE = fun jj xx ww => match jj with
          | 0 => xx = .slice a5 e k5
          | 1 => xx = .slice ao n ca
          | 2 => xx = .slice a5 e k5
          | 3 => xx = .int .i64 (e : Int)
          | 4 => (fun x w' => HeldE (intE .i32) (fun b => b < W.heap.size) w' x XA) xx ww
          | 5 => xx = .bool true
          | 6 => xx = .bool true
          | 7 => xx = .int .i64 (k : Int)
          | 8 => xx = .int .i64 M
          | 9 => xx = .bool true
          | 10 => xx = .bool true
          | 11 => xx = undef
          | 12 => xx = undef
          | 13 => xx = undef
          | 14 => xx = undef
          | 15 => xx = undef
          | 16 => xx = .bool true
          | 17 => xx = .bool true
          | 18 => xx = undef
          | _ => True := ⟨_, rfl⟩
      have ergd0 : ∀ xx ww, Ergd 0 xx ww = (xx = .slice a5 e k5) := fun xx ww => congrFun (congrFun (congrFun hErgd 0) xx) ww
      have ergd1 : ∀ xx ww, Ergd 1 xx ww = (xx = .slice ao n ca) := fun xx ww => congrFun (congrFun (congrFun hErgd 1) xx) ww
      have ergd2 : ∀ xx ww, Ergd 2 xx ww = (xx = .slice a5 e k5) := fun xx ww => congrFun (congrFun (congrFun hErgd 2) xx) ww
      have ergd3 : ∀ xx ww, Ergd 3 xx ww = (xx = .int .i64 (e : Int)) := fun xx ww => congrFun (congrFun (congrFun hErgd 3) xx) ww
      have ergd4 : ∀ xx ww, Ergd 4 xx ww = ((fun x w' => HeldE (intE .i32) (fun b => b < W.heap.size) w' x XA) xx ww) := fun xx ww => congrFun (congrFun (congrFun hErgd 4) xx) ww
      have ergd5 : ∀ xx ww, Ergd 5 xx ww = (xx = .bool true) := fun xx ww => congrFun (congrFun (congrFun hErgd 5) xx) ww
      have ergd6 : ∀ xx ww, Ergd 6 xx ww = (xx = .bool true) := fun xx ww => congrFun (congrFun (congrFun hErgd 6) xx) ww
      have ergd7 : ∀ xx ww, Ergd 7 xx ww = (xx = .int .i64 (k : Int)) := fun xx ww => congrFun (congrFun (congrFun hErgd 7) xx) ww
      have ergd8 : ∀ xx ww, Ergd 8 xx ww = (xx = .int .i64 M) := fun xx ww => congrFun (congrFun (congrFun hErgd 8) xx) ww
      have ergd9 : ∀ xx ww, Ergd 9 xx ww = (xx = .bool true) := fun xx ww => congrFun (congrFun (congrFun hErgd 9) xx) ww
      have ergd10 : ∀ xx ww, Ergd 10 xx ww = (xx = .bool true) := fun xx ww => congrFun (congrFun (congrFun hErgd 10) xx) ww
      have ergd11 : ∀ xx ww, Ergd 11 xx ww = (xx = undef) := fun xx ww => congrFun (congrFun (congrFun hErgd 11) xx) ww
      have ergd12 : ∀ xx ww, Ergd 12 xx ww = (xx = undef) := fun xx ww => congrFun (congrFun (congrFun hErgd 12) xx) ww
      have ergd13 : ∀ xx ww, Ergd 13 xx ww = (xx = undef) := fun xx ww => congrFun (congrFun (congrFun hErgd 13) xx) ww
      have ergd14 : ∀ xx ww, Ergd 14 xx ww = (xx = undef) := fun xx ww => congrFun (congrFun (congrFun hErgd 14) xx) ww
      have ergd15 : ∀ xx ww, Ergd 15 xx ww = (xx = undef) := fun xx ww => congrFun (congrFun (congrFun hErgd 15) xx) ww
      have ergd16 : ∀ xx ww, Ergd 16 xx ww = (xx = .bool true) := fun xx ww => congrFun (congrFun (congrFun hErgd 16) xx) ww
      have ergd17 : ∀ xx ww, Ergd 17 xx ww = (xx = .bool true) := fun xx ww => congrFun (congrFun (congrFun hErgd 17) xx) ww
      have ergd18 : ∀ xx ww, Ergd 18 xx ww = (xx = undef) := fun xx ww => congrFun (congrFun (congrFun hErgd 18) xx) ww
      obtain ⟨Crgd, hCrgd⟩ : ∃ CC : Array Bool → World → Prop, CC = fun L8 w' => (Mix.one L8 18 = 0 → Below w4.heap.size w4 w') ∧ (Mix.one L8 18 = 1 → Has w' (W.heap.size + 1) [.bool true] 4 ∧ Upd (fun b => b = W.heap.size + 1) w4 w') := ⟨_, rfl⟩
      have krgd : ∀ i L w, i ≠ 18 →  Crgd L w → Crgd (L.setIfInBounds i true) w := by
        intro i L w q18 h
        rw [hCrgd] at h ⊢
        simp only [Mix.one_ne q18]; exact h
      obtain ⟨Xrgd, hXrgd⟩ : ∃ XX : World → World → Prop, XX = fun x y => Upd (fun b => b = W.heap.size + 1) x y := ⟨_, rfl⟩
      have xrgd : ∀ w, Xrgd w w := fun w => by rw [hXrgd]; exact Upd.refl _ _
      have strgd : ∀ j x w w1, Xrgd w w1 → Ergd j x w → Ergd j x w1 := by
        intro j x w w1 hx h
        rw [hXrgd] at hx
        match j with
        | 0 => rw [ergd0] at h ⊢; exact h
        | 1 => rw [ergd1] at h ⊢; exact h
        | 2 => rw [ergd2] at h ⊢; exact h
        | 3 => rw [ergd3] at h ⊢; exact h
        | 4 => rw [ergd4] at h ⊢; (exact HeldE.upd h hx (fun b hb e => by omega))
        | 5 => rw [ergd5] at h ⊢; exact h
        | 6 => rw [ergd6] at h ⊢; exact h
        | 7 => rw [ergd7] at h ⊢; exact h
        | 8 => rw [ergd8] at h ⊢; exact h
        | 9 => rw [ergd9] at h ⊢; exact h
        | 10 => rw [ergd10] at h ⊢; exact h
        | 11 => rw [ergd11] at h ⊢; exact h
        | 12 => rw [ergd12] at h ⊢; exact h
        | 13 => rw [ergd13] at h ⊢; exact h
        | 14 => rw [ergd14] at h ⊢; exact h
        | 15 => rw [ergd15] at h ⊢; exact h
        | 16 => rw [ergd16] at h ⊢; exact h
        | 17 => rw [ergd17] at h ⊢; exact h
        | 18 => rw [ergd18] at h ⊢; exact h
        | j + 19 => rw [hErgd]; trivial
      have crgd : Crgd (Array.replicate 19 false) w4.drew := by rw [hCrgd]; exact ⟨fun _ => (Below.refl _ _).drew, fun e => absurd e (by decide)⟩
      have brgd : ∀ L w w1, Crgd L w → Below w.heap.size w w1 → Crgd L w1 := by
        intro L w w1 h hb
        rw [hCrgd] at h ⊢
        (obtain ⟨q1, q2⟩ := h; exact ⟨fun e => (q1 e).trans (hb.mono (q1 e).size), fun e => ⟨(q2 e).1.below hb (q2 e).1.lt, (q2 e).2.trans (.ofBelow hb)⟩⟩)
      have xbrgd : ∀ w w1, Below w.heap.size w w1 → Xrgd w w1 := by
        intro w w1 hb
        rw [hXrgd]
        exact Upd.ofBelow hb
      have Hrgdb := Lib.hid brgd
      have Hrgdxb := Lib.hid xbrgd
      clear brgd xbrgd
      clear hErgd
      have Hrgdk := Lib.hid krgd
      have Hrgdx := Lib.hid xrgd
      have Hrgdst := Lib.hid strgd
      have Hrgdc := Lib.hid crgd
      have HrgdhC := Lib.hid hCrgd
      have HrgdhX := Lib.hid hXrgd
      have Hrgde0 := Lib.hid ergd0
      have Hrgde1 := Lib.hid ergd1
      have Hrgde2 := Lib.hid ergd2
      have Hrgde3 := Lib.hid ergd3
      have Hrgde4 := Lib.hid ergd4
      have Hrgde5 := Lib.hid ergd5
      have Hrgde6 := Lib.hid ergd6
      have Hrgde7 := Lib.hid ergd7
      have Hrgde8 := Lib.hid ergd8
      have Hrgde9 := Lib.hid ergd9
      have Hrgde10 := Lib.hid ergd10
      have Hrgde11 := Lib.hid ergd11
      have Hrgde12 := Lib.hid ergd12
      have Hrgde13 := Lib.hid ergd13
      have Hrgde14 := Lib.hid ergd14
      have Hrgde15 := Lib.hid ergd15
      have Hrgde16 := Lib.hid ergd16
      have Hrgde17 := Lib.hid ergd17
      have Hrgde18 := Lib.hid ergd18
      clear krgd xrgd strgd crgd hCrgd hXrgd ergd0 ergd1 ergd2 ergd3 ergd4 ergd5 ergd6 ergd7 ergd8 ergd9 ergd10 ergd11 ergd12 ergd13 ergd14 ergd15 ergd16 ergd17 ergd18
      gi_wp2_with fail
      refine Reg.regionFIn (fun _ => trivial) rfl Reg.calls_wide (by kernel_rfl) Ergd Crgd Xrgd Hrgdst.out (by kernel_rfl) (by kernel_rfl) (by kernel_rfl) Hrgdc.out (fun Frgd hFrgd => ?_)
      simp only [Reg.frame, Reg.dsts, List.map_cons, List.map_nil, Mix.put_lit, Reg.put_none, List.set_cons_succ, List.set_cons_zero, Nat.zero_add, Nat.reduceAdd] at hFrgd
      refine ⟨?_, ?_⟩
      · refine ⟨?_, ?_, ?_, ?_, ?_, ?_, ?_, ?_, ?_, ?_, ?_, ?_, ?_, ?_, ?_, ?_, ?_, ?_, ?_, trivial⟩
        · intro Lq wq xq hh
          simp only [hFrgd]
          refine .inl ⟨rfl, ?_⟩
          unfold Reg.upon
          have hc : Crgd Lq wq := hh.cls
          rw [HrgdhC.out] at hc
          have q0 := ((hc.1 (Mix.one_un (hh.notYet 18 (by kernel_rfl)))).cell (p := ⟨b5, 0, none⟩) HH5.out.lt).trans c5
          clear hc
          have hk := Hrgdk.out 0 Lq wq (by decide)  hh.cls
          have hx := Hrgdx.out wq
          have he : Ergd 0 (.slice a5 e k5) wq := by rw [Hrgde0.out]
          have HK := Lib.hid (And.intro hk (And.intro he hx))
          clear hk hx he
          go_simp
          exact HK.out
        · intro Lq wq xq hh
          simp only [hFrgd]
          refine .inl ⟨rfl, ?_⟩
          unfold Reg.upon
          have hk := Hrgdk.out 1 Lq wq (by decide)  hh.cls
          have hx := Hrgdx.out wq
          have he : Ergd 1 (.slice ao n ca) wq := by rw [Hrgde1.out]
          have HK := Lib.hid (And.intro hk (And.intro he hx))
          clear hk hx he
          go_simp
          exact HK.out
        · intro Lq wq xq hh
          simp only [hFrgd]
          refine .inl ⟨rfl, ?_⟩
          unfold Reg.upon
          have hc : Crgd Lq wq := hh.cls
          rw [HrgdhC.out] at hc
          have q0 := ((hc.1 (Mix.one_un (hh.notYet 18 (by kernel_rfl)))).cell (p := ⟨b5, 0, none⟩) HH5.out.lt).trans c5
          clear hc
          have hk := Hrgdk.out 2 Lq wq (by decide)  hh.cls
          have hx := Hrgdx.out wq
          have he : Ergd 2 (.slice a5 e k5) wq := by rw [Hrgde2.out]
          have HK := Lib.hid (And.intro hk (And.intro he hx))
          clear hk hx he
          go_simp
          exact HK.out
        · intro Lq wq xq hh
          have d2 : Ergd 2 (xq 2) wq := hh.val 2 (by kernel_rfl) (by kernel_rfl)
          rw [Hrgde2.out] at d2
          simp only [hFrgd, d2]
          clear d2
          refine .inl ⟨rfl, ?_⟩
          unfold Reg.upon
          have hk := Hrgdk.out 3 Lq wq (by decide)  hh.cls
          have hx := Hrgdx.out wq
          have he : Ergd 3 (.int .i64 (e : Int)) wq := by rw [Hrgde3.out]
          have HK := Lib.hid (And.intro hk (And.intro he hx))
          clear hk hx he
          go_simp
          exact HK.out
        · intro Lq wq xq hh
          have d1 : Ergd 1 (xq 1) wq := hh.val 1 (by kernel_rfl) (by kernel_rfl)
          rw [Hrgde1.out] at d1
          have d3 : Ergd 3 (xq 3) wq := hh.val 3 (by kernel_rfl) (by kernel_rfl)
          rw [Hrgde3.out] at d3
          simp only [hFrgd, d1, d3]
          clear d1 d3
          refine .inl ⟨rfl, ?_⟩
          unfold Reg.upon
          have hc : Crgd Lq wq := hh.cls
          rw [HrgdhC.out] at hc
          have hbq := hc.1 (Mix.one_un (hh.notYet 18 (by kernel_rfl)))
          have hq := HQE.out wq (HBW.out.trans (hbq.mono HBW.out.size))
          have hK4 := Hrgdk.out 4 Lq wq (by decide) hh.cls
          have hx4 := Hrgdx.out wq
          have hE4 : ∀ vv, HeldE (intE .i32) (fun b => b < W.heap.size) wq vv XA → Ergd 4 vv wq := fun vv h => by rw [Hrgde4.out]; exact h
          have hnil : ao = none → xs = [] ∧ ca = 0 := fun h => by rw [h] at hq; have := hq.nilL; exact ⟨this.1, this.2.2⟩
          have hhe : HeldE (intE .i32) (fun b => b < W.heap.size) wq (.slice ao e ca) XA := by
            rw [HXA.out]
            cases hao : ao with
            | none =>
              have hz := hnil hao
              rw [hz.1, List.take_nil]
              have : e = 0 := by have := hz.2; omega
              rw [this, hz.2]
              exact HeldE.nil _ _ _
            | some ad =>
              have hq2 := hq
              rw [hao] at hq2
              have hp := hq2.part 0 e (Nat.zero_le _) (by rw [← HN.out]; exact hen) (some ad) ca (fun h => by cases h) (fun b off h _ => by cases h; simp) (fun _ _ => by simp) (by omega) (by obtain ⟨_, _, e9, _, hm9, _⟩ := hq2; cases e9; exact hm9)
              simpa using hp
          have hF := hE4 _ hhe
          have hca0 : ao = none → e = 0 ∧ ca = 0 := fun h => by have := (hnil h).2; omega
          clear hnil hE4 hhe hq hbq hc
          cases ao with
          | none => (obtain ⟨he0, hca1⟩ := hca0 rfl; subst he0 hca1; go_simp; exact ⟨hK4, hF, hx4⟩)
          | some ad => go_simp; exact ⟨hK4, hF, hx4⟩
        · intro Lq wq xq hh
          have d0 : Ergd 0 (xq 0) wq := hh.val 0 (by kernel_rfl) (by kernel_rfl)
          rw [Hrgde0.out] at d0
          have d4 : Ergd 4 (xq 4) wq := hh.val 4 (by kernel_rfl) (by kernel_rfl)
          rw [Hrgde4.out] at d4
          simp only [hFrgd, d0]
          clear d0
          refine .inl ⟨rfl, ?_⟩
          unfold Reg.upon
          have hc : Crgd Lq wq := hh.cls
          rw [HrgdhC.out] at hc
          go_simp
          refine (same_any _ _ XA XA wq (HO.out.below (hc.1 (Mix.one_un (hh.notYet 18 (by kernel_rfl))))) d4.ints HTK.out).mono ?_
          rintro e9 w2 ⟨rfl, hb⟩
          refine ⟨_, rfl, Hrgdk.out 5 Lq w2 (by decide) (Hrgdb.out Lq wq w2 hh.cls hb), ?_, Hrgdxb.out wq w2 hb⟩
          rw [Hrgde5.out, sameB_self]
        · intro Lq wq xq hh
          have d5 : Ergd 5 (xq 5) wq := hh.val 5 (by kernel_rfl) (by kernel_rfl)
          rw [Hrgde5.out] at d5
          simp only [hFrgd, d5]
          clear d5
          refine .inl ⟨rfl, ?_⟩
          unfold Reg.upon
          have hk := Hrgdk.out 6 Lq wq (by decide)  hh.cls
          have hx := Hrgdx.out wq
          have he : Ergd 6 (.bool true) wq := by rw [Hrgde6.out]
          have HK := Lib.hid (And.intro hk (And.intro he hx))
          clear hk hx he
          go_simp
          exact HK.out
        · intro Lq wq xq hh
          have d6 : Ergd 6 (xq 6) wq := hh.val 6 (by kernel_rfl) (by kernel_rfl)
          rw [Hrgde6.out] at d6
          simp only [hFrgd, d6]
          clear d6
          refine .inl ⟨rfl, ?_⟩
          unfold Reg.upon
          have hc : Crgd Lq wq := hh.cls
          rw [HrgdhC.out] at hc
          have q0 := ((hc.1 (Mix.one_un (hh.notYet 18 (by kernel_rfl)))).cell (p := ⟨b5 + 1, 0, none⟩) HH6.out.lt).trans (HH6.out.cell 0 _ rfl)
          clear hc
          have hk := Hrgdk.out 7 Lq wq (by decide)  hh.cls
          have hx := Hrgdx.out wq
          have he : Ergd 7 (.int .i64 (k : Int)) wq := by rw [Hrgde7.out]
          have HK := Lib.hid (And.intro hk (And.intro he hx))
          clear hk hx he
          go_simp
          exact HK.out
        · intro Lq wq xq hh
          have d6 : Ergd 6 (xq 6) wq := hh.val 6 (by kernel_rfl) (by kernel_rfl)
          rw [Hrgde6.out] at d6
          simp only [hFrgd, d6]
          clear d6
          refine .inl ⟨rfl, ?_⟩
          unfold Reg.upon
          have hc : Crgd Lq wq := hh.cls
          rw [HrgdhC.out] at hc
          have q0 := ((hc.1 (Mix.one_un (hh.notYet 18 (by kernel_rfl)))).cell (p := ⟨W.heap.size, 0, none⟩) HH3.out.lt).trans (HH3.out.cell 0 _ rfl)
          clear hc
          have hk := Hrgdk.out 8 Lq wq (by decide)  hh.cls
          have hx := Hrgdx.out wq
          have he : Ergd 8 (.int .i64 M) wq := by rw [Hrgde8.out]
          have HK := Lib.hid (And.intro hk (And.intro he hx))
          clear hk hx he
          go_simp
          exact HK.out
        · intro Lq wq xq hh
          have d6 : Ergd 6 (xq 6) wq := hh.val 6 (by kernel_rfl) (by kernel_rfl)
          rw [Hrgde6.out] at d6
          have d7 : Ergd 7 (xq 7) wq := hh.val 7 (by kernel_rfl) (by kernel_rfl)
          rw [Hrgde7.out] at d7
          have d8 : Ergd 8 (xq 8) wq := hh.val 8 (by kernel_rfl) (by kernel_rfl)
          rw [Hrgde8.out] at d8
          simp only [hFrgd, d6, d7, d8]
          clear d6 d7 d8
          refine .inl ⟨rfl, ?_⟩
          unfold Reg.upon
          have hk := Hrgdk.out 9 Lq wq (by decide)  hh.cls
          have hx := Hrgdx.out wq
          have he : Ergd 9 (.bool true) wq := by rw [Hrgde9.out]
          have HK := Lib.hid (And.intro hk (And.intro he hx))
          clear hk hx he
          go_simp
          exact HK.out
        · intro Lq wq xq hh
          have d6 : Ergd 6 (xq 6) wq := hh.val 6 (by kernel_rfl) (by kernel_rfl)
          rw [Hrgde6.out] at d6
          have d9 : Ergd 9 (xq 9) wq := hh.val 9 (by kernel_rfl) (by kernel_rfl)
          rw [Hrgde9.out] at d9
          simp only [hFrgd, d6, d9]
          clear d6 d9
          refine .inl ⟨rfl, ?_⟩
          unfold Reg.upon
          have hk := Hrgdk.out 10 Lq wq (by decide)  hh.cls
          have hx := Hrgdx.out wq
          have he : Ergd 10 (.bool true) wq := by rw [Hrgde10.out]
          have HK := Lib.hid (And.intro hk (And.intro he hx))
          clear hk hx he
          go_simp
          exact HK.out
        · intro Lq wq xq hh
          have d10 : Ergd 10 (xq 10) wq := hh.val 10 (by kernel_rfl) (by kernel_rfl)
          rw [Hrgde10.out] at d10
          simp only [hFrgd, d10]
          clear d10
          exact .inr ⟨rfl, Hrgdk.out 11 Lq wq (by decide)  hh.cls, (by rw [Hrgde11.out])⟩
        · intro Lq wq xq hh
          have d10 : Ergd 10 (xq 10) wq := hh.val 10 (by kernel_rfl) (by kernel_rfl)
          rw [Hrgde10.out] at d10
          have d11 : Ergd 11 (xq 11) wq := hh.val 11 (by kernel_rfl) (by kernel_rfl)
          rw [Hrgde11.out] at d11
          simp only [hFrgd, d10, d11]
          clear d10 d11
          exact .inr ⟨rfl, Hrgdk.out 12 Lq wq (by decide)  hh.cls, (by rw [Hrgde12.out])⟩
        · intro Lq wq xq hh
          have d10 : Ergd 10 (xq 10) wq := hh.val 10 (by kernel_rfl) (by kernel_rfl)
          rw [Hrgde10.out] at d10
          simp only [hFrgd, d10]
          clear d10
          exact .inr ⟨rfl, Hrgdk.out 13 Lq wq (by decide)  hh.cls, (by rw [Hrgde13.out])⟩
        · intro Lq wq xq hh
          have d10 : Ergd 10 (xq 10) wq := hh.val 10 (by kernel_rfl) (by kernel_rfl)
          rw [Hrgde10.out] at d10
          have d13 : Ergd 13 (xq 13) wq := hh.val 13 (by kernel_rfl) (by kernel_rfl)
          rw [Hrgde13.out] at d13
          simp only [hFrgd, d10, d13]
          clear d10 d13
          exact .inr ⟨rfl, Hrgdk.out 14 Lq wq (by decide)  hh.cls, (by rw [Hrgde14.out])⟩
        · intro Lq wq xq hh
          have d10 : Ergd 10 (xq 10) wq := hh.val 10 (by kernel_rfl) (by kernel_rfl)
          rw [Hrgde10.out] at d10
          have d12 : Ergd 12 (xq 12) wq := hh.val 12 (by kernel_rfl) (by kernel_rfl)
          rw [Hrgde12.out] at d12
          have d14 : Ergd 14 (xq 14) wq := hh.val 14 (by kernel_rfl) (by kernel_rfl)
          rw [Hrgde14.out] at d14
          simp only [hFrgd, d10, d12, d14]
          clear d10 d12 d14
          exact .inr ⟨rfl, Hrgdk.out 15 Lq wq (by decide)  hh.cls, (by rw [Hrgde15.out])⟩
        · intro Lq wq xq hh
          have d6 : Ergd 6 (xq 6) wq := hh.val 6 (by kernel_rfl) (by kernel_rfl)
          rw [Hrgde6.out] at d6
          have d10 : Ergd 10 (xq 10) wq := hh.val 10 (by kernel_rfl) (by kernel_rfl)
          rw [Hrgde10.out] at d10
          have d15 : Ergd 15 (xq 15) wq := hh.val 15 (by kernel_rfl) (by kernel_rfl)
          rw [Hrgde15.out] at d15
          simp only [hFrgd, d6, d10, d15]
          clear d6 d10 d15
          refine .inl ⟨rfl, ?_⟩
          unfold Reg.upon
          have hk := Hrgdk.out 16 Lq wq (by decide)  hh.cls
          have hx := Hrgdx.out wq
          have he : Ergd 16 (.bool true) wq := by rw [Hrgde16.out]
          have HK := Lib.hid (And.intro hk (And.intro he hx))
          clear hk hx he
          go_simp
          exact HK.out
        · intro Lq wq xq hh
          have d6 : Ergd 6 (xq 6) wq := hh.val 6 (by kernel_rfl) (by kernel_rfl)
          rw [Hrgde6.out] at d6
          have d16 : Ergd 16 (xq 16) wq := hh.val 16 (by kernel_rfl) (by kernel_rfl)
          rw [Hrgde16.out] at d16
          simp only [hFrgd, d6, d16]
          clear d6 d16
          refine .inl ⟨rfl, ?_⟩
          unfold Reg.upon
          have hk := Hrgdk.out 17 Lq wq (by decide)  hh.cls
          have hx := Hrgdx.out wq
          have he : Ergd 17 (.bool true) wq := by rw [Hrgde17.out]
          have HK := Lib.hid (And.intro hk (And.intro he hx))
          clear hk hx he
          go_simp
          exact HK.out
        · intro Lq wq xq hh
          have d17 : Ergd 17 (xq 17) wq := hh.val 17 (by kernel_rfl) (by kernel_rfl)
          rw [Hrgde17.out] at d17
          simp only [hFrgd, d17]
          clear d17
          refine .inl ⟨rfl, ?_⟩
          unfold Reg.upon
          have hc : Crgd Lq wq := hh.cls
          rw [HrgdhC.out] at hc
          have hbq := hc.1 hh.un
          have h4 := HH4.out.below hbq HH4.out.lt
          have c9 := h4.cell 0 _ rfl
          have f9 := h4.free 0
          have h5 := h4.set 0 (.bool true)
          have u5 := (Upd.refl (fun b => b = W.heap.size + 1) wq).setCell (p := ⟨W.heap.size + 1, 0, none⟩) (.inl rfl) (.bool true)
          have hF : Crgd (Lq.setIfInBounds 18 true) (World.setCell wq ⟨W.heap.size + 1, 0, none⟩ (.bool true)) ∧ Ergd 18 undef (World.setCell wq ⟨W.heap.size + 1, 0, none⟩ (.bool true)) ∧ Xrgd wq (World.setCell wq ⟨W.heap.size + 1, 0, none⟩ (.bool true)) := by
            refine ⟨?_, by rw [Hrgde18.out], by rw [HrgdhX.out]; exact u5⟩
            rw [HrgdhC.out]
            exact ⟨fun e9 => (by rw [Mix.one_set (by rw [hh.size]; decide)] at e9; exact absurd e9 (by decide)), fun _ => ⟨h5, (Upd.ofBelow hbq).trans u5⟩⟩
          clear hc h5 u5 h4 hbq
          go_simp
          try exact hF
      intro xq wrgd hcrgd hvrgd
      rw [HrgdhC.out] at hcrgd
      simp only [hFrgd]
      clear hvrgd hFrgd Hrgdk Hrgdx Hrgdst Hrgdc HrgdhC HrgdhX Hrgdb Hrgdxb Hrgde0 Hrgde1 Hrgde2 Hrgde3 Hrgde4 Hrgde5 Hrgde6 Hrgde7 Hrgde8 Hrgde9 Hrgde10 Hrgde11 Hrgde12 Hrgde13 Hrgde14 Hrgde15 Hrgde16 Hrgde17 Hrgde18
      obtain ⟨q1, q2⟩ := hcrgd.2 (by kernel_rfl)
      have hK9 := (q2.block w3.heap.size (by have := (Array.getElem?_eq_some_iff.1 HK.out).1; exact this) (by have := HE4.out; omega)).trans HK.out
      have hlt9 : W.heap.size + 1 < w3.heap.size := by have := HE4.out; omega
      have uD := upd_putObj (S := fun b => b = w3.heap.size) wrgd w3.heap.size (.deferred none) rfl
      have HR := Lib.hid (uD.keep.has q1 (by omega))
      have HBF := Lib.hid ((HBW.out.upd q2 HBW.out.size (fun b h => by omega)).upd uD (by have := HBW.out.size; have := q2.size; omega) (fun b h => by omega))
      have r0 := HR.out.cell 0 _ rfl
      clear hcrgd q1 q2 uD
      gi_wp2
      refine ⟨by simp, .inl ⟨_, _, rfl, run_takeDeferred hK9, ?_⟩⟩
      exact ⟨.bool true, by simp [results, Try.results4, go_sem, r0], rfl, HBF.out⟩
    · have HE4 := Lib.hid (show W.heap.size + 1 < b5 ∧ b5 + 2 ≤ w3.heap.size from ⟨HLT.out, HS3.out⟩)
      have hel := endC_le xs k (by omega)
      obtain ⟨e, he⟩ : ∃ e, e = endC xs k := ⟨_, rfl⟩
      have HE9 := Lib.hid (show e = n by rw [he]; exact HEND)
      clear HEND
      rw [← he] at q10 hel
      have hxl : (xs.take e).length = e := by rw [List.length_take]; omega
      have HTK := Lib.hid (show (xs.take e).length ≤ 9223372036854775807 from by rw [hxl]; have := HN.out; omega)
      obtain ⟨XA, hXA⟩ : ∃ XA, XA = xs.take e := ⟨_, rfl⟩
      have HXA := Lib.hid hXA
      rw [← hXA] at q10 hxl HTK
      have HO := Lib.hid (q10.held (Z := fun b => hi ≤ b) (fun b h _ => h)).ints
      obtain ⟨a5, k5, hva⟩ := HO.out.len
      rw [hxl] at hva
      have hen : e ≤ n := by rw [HN.out]; exact hel
      have c5 := q9.cell 0 _ rfl
      rw [hva] at c5 HO
      have HH3 := Lib.hid q2
      have HH4 := Lib.hid q3
      have HH5 := Lib.hid q9
      have HH6 := Lib.hid q8
      have HBW := Lib.hid q4
      rw [hva] at HH5
      have HK := Lib.hid hK
      have HXL := Lib.hid hxl
      have hgt : decide ((n : Int) < e) = false := by rw [decide_eq_false_iff_not]; omega
      have hgtn : decide (n < e) = false := by rw [decide_eq_false_iff_not]; omega
      have HHI := Lib.hid q1
      have hlh : e ≤ ca := by omega
      have hkm : ((k : Int) == M) = false := by simpa using hM
      have hee : ((e : Int) == (n : Int)) = true := by rw [beq_iff_eq]; have := HE9.out; omega
      clear q1 q2 q3 q4 q5 q6 q7 q7b q8 q9 q10 hva hXA he hxl hK hel
      gi_upto_region 15 with (fail)
      obtain ⟨Ergn, hErgn⟩ : ∃ EE : Nat → Value → World → Prop, EE = fun jj xx ww => match jj with
          | 0 => xx = .slice a5 e k5
          | 1 => xx = .slice ao n ca
          | 2 => xx = .slice a5 e k5
          | 3 => xx = .int .i64 (e : Int)
          | 4 => (fun x w' => HeldE (intE .i32) (fun b => b < W.heap.size) w' x XA) xx ww
          | 5 => xx = .bool true
          | 6 => xx = .bool true
          | 7 => xx = .int .i64 (k : Int)
          | 8 => xx = .int .i64 M
          | 9 => xx = .bool false
          | 10 => xx = .bool false
          | 11 => xx = .slice a5 e k5
          | 12 => xx = .int .i64 (e : Int)
          | 13 => xx = .slice ao n ca
          | 14 => xx = .int .i64 (n : Int)
          | 15 => xx = .bool true
          | 16 => xx = .bool true
          | 17 => xx = .bool true
          | 18 => xx = undef
          | _ => True := ⟨_, rfl⟩
      have ergn0 : ∀ xx ww, Ergn 0 xx ww = (xx = .slice a5 e k5) := fun xx ww => congrFun (congrFun (congrFun hErgn 0) xx) ww
      have ergn1 : ∀ xx ww, Ergn 1 xx ww = (xx = .slice ao n ca) := fun xx ww => congrFun (congrFun (congrFun hErgn 1) xx) ww
      have ergn2 : ∀ xx ww, Ergn 2 xx ww = (xx = .slice a5 e k5) := fun xx ww => congrFun (congrFun (congrFun hErgn 2) xx) ww
      have ergn3 : ∀ xx ww, Ergn 3 xx ww = (xx = .int .i64 (e : Int)) := fun xx ww => congrFun (congrFun (congrFun hErgn 3) xx) ww
      have ergn4 : ∀ xx ww, Ergn 4 xx ww = ((fun x w' => HeldE (intE .i32) (fun b => b < W.heap.size) w' x XA) xx ww) := fun xx ww => congrFun (congrFun (congrFun hErgn 4) xx) ww
      have ergn5 : ∀ xx ww, Ergn 5 xx ww = (xx = .bool true) := fun xx ww => congrFun (congrFun (congrFun hErgn 5) xx) ww
      have ergn6 : ∀ xx ww, Ergn 6 xx ww = (xx = .bool true) := fun xx ww => congrFun (congrFun (congrFun hErgn 6) xx) ww
      have ergn7 : ∀ xx ww, Ergn 7 xx ww = (xx = .int .i64 (k : Int)) := fun xx ww => congrFun (congrFun (congrFun hErgn 7) xx) ww
      have ergn8 : ∀ xx ww, Ergn 8 xx ww = (xx = .int .i64 M) := fun xx ww => congrFun (congrFun (congrFun hErgn 8) xx) ww
      have ergn9 : ∀ xx ww, Ergn 9 xx ww = (xx = .bool false) := fun xx ww => congrFun (congrFun (congrFun hErgn 9) xx) ww
      have ergn10 : ∀ xx ww, Ergn 10 xx ww = (xx = .bool false) := fun xx ww => congrFun (congrFun (congrFun hErgn 10) xx) ww
      have ergn11 : ∀ xx ww, Ergn 11 xx ww = (xx = .slice a5 e k5) := fun xx ww => congrFun (congrFun (congrFun hErgn 11) xx) ww
      have ergn12 : ∀ xx ww, Ergn 12 xx ww = (xx = .int .i64 (e : Int)) := fun xx ww => congrFun (congrFun (congrFun hErgn 12) xx) ww
      have ergn13 : ∀ xx ww, Ergn 13 xx ww = (xx = .slice ao n ca) := fun xx ww => congrFun (congrFun (congrFun hErgn 13) xx) ww
      have ergn14 : ∀ xx ww, Ergn 14 xx ww = (xx = .int .i64 (n : Int)) := fun xx ww => congrFun (congrFun (congrFun hErgn 14) xx) ww
      have ergn15 : ∀ xx ww, Ergn 15 xx ww = (xx = .bool true) := fun xx ww => congrFun (congrFun (congrFun hErgn 15) xx) ww
      have ergn16 : ∀ xx ww, Ergn 16 xx ww = (xx = .bool true) := fun xx ww => congrFun (congrFun (congrFun hErgn 16) xx) ww
      have ergn17 : ∀ xx ww, Ergn 17 xx ww = (xx = .bool true) := fun xx ww => congrFun (congrFun (congrFun hErgn 17) xx) ww
      have ergn18 : ∀ xx ww, Ergn 18 xx ww = (xx = undef) := fun xx ww => congrFun (congrFun (congrFun hErgn 18) xx) ww
      obtain ⟨Crgn, hCrgn⟩ : ∃ CC : Array Bool → World → Prop, CC = fun L8 w' => (Mix.one L8 18 = 0 → Below w4.heap.size w4 w') ∧ (Mix.one L8 18 = 1 → Has w' (W.heap.size + 1) [.bool true] 4 ∧ Upd (fun b => b = W.heap.size + 1) w4 w') := ⟨_, rfl⟩
      have krgn : ∀ i L w, i ≠ 18 →  Crgn L w → Crgn (L.setIfInBounds i true) w := by
        intro i L w q18 h
        rw [hCrgn] at h ⊢
        simp only [Mix.one_ne q18]; exact h
      obtain ⟨Xrgn, hXrgn⟩ : ∃ XX : World → World → Prop, XX = fun x y => Upd (fun b => b = W.heap.size + 1) x y := ⟨_, rfl⟩
      have xrgn : ∀ w, Xrgn w w := fun w => by rw [hXrgn]; exact Upd.refl _ _
      have strgn : ∀ j x w w1, Xrgn w w1 → Ergn j x w → Ergn j x w1 := by
        intro j x w w1 hx h
        rw [hXrgn] at hx
        match j with
        | 0 => rw [ergn0] at h ⊢; exact h
        | 1 => rw [ergn1] at h ⊢; exact h
        | 2 => rw [ergn2] at h ⊢; exact h
        | 3 => rw [ergn3] at h ⊢; exact h
        | 4 => rw [ergn4] at h ⊢; (exact HeldE.upd h hx (fun b hb e => by omega))
        | 5 => rw [ergn5] at h ⊢; exact h
        | 6 => rw [ergn6] at h ⊢; exact h
        | 7 => rw [ergn7] at h ⊢; exact h
        | 8 => rw [ergn8] at h ⊢; exact h
        | 9 => rw [ergn9] at h ⊢; exact h
        | 10 => rw [ergn10] at h ⊢; exact h
        | 11 => rw [ergn11] at h ⊢; exact h
        | 12 => rw [ergn12] at h ⊢; exact h
        | 13 => rw [ergn13] at h ⊢; exact h
        | 14 => rw [ergn14] at h ⊢; exact h
        | 15 => rw [ergn15] at h ⊢; exact h
        | 16 => rw [ergn16] at h ⊢; exact h
        | 17 => rw [ergn17] at h ⊢; exact h
        | 18 => rw [ergn18] at h ⊢; exact h
        | j + 19 => rw [hErgn]; trivial
      have crgn : Crgn (Array.replicate 19 false) w4.drew := by rw [hCrgn]; exact ⟨fun _ => (Below.refl _ _).drew, fun e => absurd e (by decide)⟩
      have brgn : ∀ L w w1, Crgn L w → Below w.heap.size w w1 → Crgn L w1 := by
        intro L w w1 h hb
        rw [hCrgn] at h ⊢
        (obtain ⟨q1, q2⟩ := h; exact ⟨fun e => (q1 e).trans (hb.mono (q1 e).size), fun e => ⟨(q2 e).1.below hb (q2 e).1.lt, (q2 e).2.trans (.ofBelow hb)⟩⟩)
      have xbrgn : ∀ w w1, Below w.heap.size w w1 → Xrgn w w1 := by
        intro w w1 hb
        rw [hXrgn]
        exact Upd.ofBelow hb
      have Hrgnb := Lib.hid brgn
      have Hrgnxb := Lib.hid xbrgn
      clear brgn xbrgn
      clear hErgn
      have Hrgnk := Lib.hid krgn
      have Hrgnx := Lib.hid xrgn
      have Hrgnst := Lib.hid strgn
      have Hrgnc := Lib.hid crgn
      have HrgnhC := Lib.hid hCrgn
      have HrgnhX := Lib.hid hXrgn
      have Hrgne0 := Lib.hid ergn0
      have Hrgne1 := Lib.hid ergn1
      have Hrgne2 := Lib.hid ergn2
      have Hrgne3 := Lib.hid ergn3
      have Hrgne4 := Lib.hid ergn4
      have Hrgne5 := Lib.hid ergn5
      have Hrgne6 := Lib.hid ergn6
      have Hrgne7 := Lib.hid ergn7
      have Hrgne8 := Lib.hid ergn8
      have Hrgne9 := Lib.hid ergn9
      have Hrgne10 := Lib.hid ergn10
      have Hrgne11 := Lib.hid ergn11
      have Hrgne12 := Lib.hid ergn12
      have Hrgne13 := Lib.hid ergn13
      have Hrgne14 := Lib.hid ergn14
      have Hrgne15 := Lib.hid ergn15
      have Hrgne16 := Lib.hid ergn16
      have Hrgne17 := Lib.hid ergn17
      have Hrgne18 := Lib.hid ergn18
      clear krgn xrgn strgn crgn hCrgn hXrgn ergn0 ergn1 ergn2 ergn3 ergn4 ergn5 ergn6 ergn7 ergn8 ergn9 ergn10 ergn11 ergn12 ergn13 ergn14 ergn15 ergn16 ergn17 ergn18
      gi_wp2_with fail
      refine Reg.regionFIn (fun _ => trivial) rfl Reg.calls_wide (by kernel_rfl) Ergn Crgn Xrgn Hrgnst.out (by kernel_rfl) (by kernel_rfl) (by kernel_rfl) Hrgnc.out (fun Frgn hFrgn => ?_)
      simp only [Reg.frame, Reg.dsts, List.map_cons, List.map_nil, Mix.put_lit, Reg.put_none, List.set_cons_succ, List.set_cons_zero, Nat.zero_add, Nat.reduceAdd] at hFrgn
      refine ⟨?_, ?_⟩
      · refine ⟨?_, ?_, ?_, ?_, ?_, ?_, ?_, ?_, ?_, ?_, ?_, ?_, ?_, ?_, ?_, ?_, ?_, ?_, ?_, trivial⟩
        · intro Lq wq xq hh
          simp only [hFrgn]
          refine .inl ⟨rfl, ?_⟩
          unfold Reg.upon
          have hc : Crgn Lq wq := hh.cls
          rw [HrgnhC.out] at hc
          have q0 := ((hc.1 (Mix.one_un (hh.notYet 18 (by kernel_rfl)))).cell (p := ⟨b5, 0, none⟩) HH5.out.lt).trans c5
          clear hc
          have hk := Hrgnk.out 0 Lq wq (by decide)  hh.cls
          have hx := Hrgnx.out wq
          have he : Ergn 0 (.slice a5 e k5) wq := by rw [Hrgne0.out]
          have HK := Lib.hid (And.intro hk (And.intro he hx))
          clear hk hx he
          go_simp
          exact HK.out
        · intro Lq wq xq hh
          simp only [hFrgn]
          refine .inl ⟨rfl, ?_⟩
          unfold Reg.upon
          have hk := Hrgnk.out 1 Lq wq (by decide)  hh.cls
          have hx := Hrgnx.out wq
          have he : Ergn 1 (.slice ao n ca) wq := by rw [Hrgne1.out]
          have HK := Lib.hid (And.intro hk (And.intro he hx))
          clear hk hx he
          go_simp
          exact HK.out
        · intro Lq wq xq hh
          simp only [hFrgn]
          refine .inl ⟨rfl, ?_⟩
          unfold Reg.upon
          have hc : Crgn Lq wq := hh.cls
          rw [HrgnhC.out] at hc
          have q0 := ((hc.1 (Mix.one_un (hh.notYet 18 (by kernel_rfl)))).cell (p := ⟨b5, 0, none⟩) HH5.out.lt).trans c5
          clear hc
          have hk := Hrgnk.out 2 Lq wq (by decide)  hh.cls
          have hx := Hrgnx.out wq
          have he : Ergn 2 (.slice a5 e k5) wq := by rw [Hrgne2.out]
          have HK := Lib.hid (And.intro hk (And.intro he hx))
          clear hk hx he
          go_simp
          exact HK.out
        · intro Lq wq xq hh
          have d2 : Ergn 2 (xq 2) wq := hh.val 2 (by kernel_rfl) (by kernel_rfl)
          rw [Hrgne2.out] at d2
          simp only [hFrgn, d2]
          clear d2
          refine .inl ⟨rfl, ?_⟩
          unfold Reg.upon
          have hk := Hrgnk.out 3 Lq wq (by decide)  hh.cls
          have hx := Hrgnx.out wq
          have he : Ergn 3 (.int .i64 (e : Int)) wq := by rw [Hrgne3.out]
          have HK := Lib.hid (And.intro hk (And.intro he hx))
          clear hk hx he
          go_simp
          exact HK.out
        · intro Lq wq xq hh
          have d1 : Ergn 1 (xq 1) wq := hh.val 1 (by kernel_rfl) (by kernel_rfl)
          rw [Hrgne1.out] at d1
          have d3 : Ergn 3 (xq 3) wq := hh.val 3 (by kernel_rfl) (by kernel_rfl)
          rw [Hrgne3.out] at d3
          simp only [hFrgn, d1, d3]
          clear d1 d3
          refine .inl ⟨rfl, ?_⟩
          unfold Reg.upon
          have hc : Crgn Lq wq := hh.cls
          rw [HrgnhC.out] at hc
          have hbq := hc.1 (Mix.one_un (hh.notYet 18 (by kernel_rfl)))
          have hq := HQE.out wq (HBW.out.trans (hbq.mono HBW.out.size))
          have hK4 := Hrgnk.out 4 Lq wq (by decide) hh.cls
          have hx4 := Hrgnx.out wq
          have hE4 : ∀ vv, HeldE (intE .i32) (fun b => b < W.heap.size) wq vv XA → Ergn 4 vv wq := fun vv h => by rw [Hrgne4.out]; exact h
          have hnil : ao = none → xs = [] ∧ ca = 0 := fun h => by rw [h] at hq; have := hq.nilL; exact ⟨this.1, this.2.2⟩
          have hhe : HeldE (intE .i32) (fun b => b < W.heap.size) wq (.slice ao e ca) XA := by
            rw [HXA.out]
            cases hao : ao with
            | none =>
              have hz := hnil hao
              rw [hz.1, List.take_nil]
              have : e = 0 := by have := hz.2; omega
              rw [this, hz.2]
              exact HeldE.nil _ _ _
            | some ad =>
              have hq2 := hq
              rw [hao] at hq2
              have hp := hq2.part 0 e (Nat.zero_le _) (by rw [← HN.out]; exact hen) (some ad) ca (fun h => by cases h) (fun b off h _ => by cases h; simp) (fun _ _ => by simp) (by omega) (by obtain ⟨_, _, e9, _, hm9, _⟩ := hq2; cases e9; exact hm9)
              simpa using hp
          have hF := hE4 _ hhe
          have hca0 : ao = none → e = 0 ∧ ca = 0 := fun h => by have := (hnil h).2; omega
          clear hnil hE4 hhe hq hbq hc
          cases ao with
          | none => (obtain ⟨he0, hca1⟩ := hca0 rfl; subst he0 hca1; go_simp; exact ⟨hK4, hF, hx4⟩)
          | some ad => go_simp; exact ⟨hK4, hF, hx4⟩
        · intro Lq wq xq hh
          have d0 : Ergn 0 (xq 0) wq := hh.val 0 (by kernel_rfl) (by kernel_rfl)
          rw [Hrgne0.out] at d0
          have d4 : Ergn 4 (xq 4) wq := hh.val 4 (by kernel_rfl) (by kernel_rfl)
          rw [Hrgne4.out] at d4
          simp only [hFrgn, d0]
          clear d0
          refine .inl ⟨rfl, ?_⟩
          unfold Reg.upon
          have hc : Crgn Lq wq := hh.cls
          rw [HrgnhC.out] at hc
          go_simp
          refine (same_any _ _ XA XA wq (HO.out.below (hc.1 (Mix.one_un (hh.notYet 18 (by kernel_rfl))))) d4.ints HTK.out).mono ?_
          rintro e9 w2 ⟨rfl, hb⟩
          refine ⟨_, rfl, Hrgnk.out 5 Lq w2 (by decide) (Hrgnb.out Lq wq w2 hh.cls hb), ?_, Hrgnxb.out wq w2 hb⟩
          rw [Hrgne5.out, sameB_self]
        · intro Lq wq xq hh
          have d5 : Ergn 5 (xq 5) wq := hh.val 5 (by kernel_rfl) (by kernel_rfl)
          rw [Hrgne5.out] at d5
          simp only [hFrgn, d5]
          clear d5
          refine .inl ⟨rfl, ?_⟩
          unfold Reg.upon
          have hk := Hrgnk.out 6 Lq wq (by decide)  hh.cls
          have hx := Hrgnx.out wq
          have he : Ergn 6 (.bool true) wq := by rw [Hrgne6.out]
          have HK := Lib.hid (And.intro hk (And.intro he hx))
          clear hk hx he
          go_simp
          exact HK.out
        · intro Lq wq xq hh
          have d6 : Ergn 6 (xq 6) wq := hh.val 6 (by kernel_rfl) (by kernel_rfl)
          rw [Hrgne6.out] at d6
          simp only [hFrgn, d6]
          clear d6
          refine .inl ⟨rfl, ?_⟩
          unfold Reg.upon
          have hc : Crgn Lq wq := hh.cls
          rw [HrgnhC.out] at hc
          have q0 := ((hc.1 (Mix.one_un (hh.notYet 18 (by kernel_rfl)))).cell (p := ⟨b5 + 1, 0, none⟩) HH6.out.lt).trans (HH6.out.cell 0 _ rfl)
          clear hc
          have hk := Hrgnk.out 7 Lq wq (by decide)  hh.cls
          have hx := Hrgnx.out wq
          have he : Ergn 7 (.int .i64 (k : Int)) wq := by rw [Hrgne7.out]
          have HK := Lib.hid (And.intro hk (And.intro he hx))
          clear hk hx he
          go_simp
          exact HK.out
        · intro Lq wq xq hh
          have d6 : Ergn 6 (xq 6) wq := hh.val 6 (by kernel_rfl) (by kernel_rfl)
          rw [Hrgne6.out] at d6
          simp only [hFrgn, d6]
          clear d6
          refine .inl ⟨rfl, ?_⟩
          unfold Reg.upon
          have hc : Crgn Lq wq := hh.cls
          rw [HrgnhC.out] at hc
          have q0 := ((hc.1 (Mix.one_un (hh.notYet 18 (by kernel_rfl)))).cell (p := ⟨W.heap.size, 0, none⟩) HH3.out.lt).trans (HH3.out.cell 0 _ rfl)
          clear hc
          have hk := Hrgnk.out 8 Lq wq (by decide)  hh.cls
          have hx := Hrgnx.out wq
          have he : Ergn 8 (.int .i64 M) wq := by rw [Hrgne8.out]
          have HK := Lib.hid (And.intro hk (And.intro he hx))
          clear hk hx he
          go_simp
          exact HK.out
        · intro Lq wq xq hh
          have d6 : Ergn 6 (xq 6) wq := hh.val 6 (by kernel_rfl) (by kernel_rfl)
          rw [Hrgne6.out] at d6
          have d7 : Ergn 7 (xq 7) wq := hh.val 7 (by kernel_rfl) (by kernel_rfl)
          rw [Hrgne7.out] at d7
          have d8 : Ergn 8 (xq 8) wq := hh.val 8 (by kernel_rfl) (by kernel_rfl)
          rw [Hrgne8.out] at d8
          simp only [hFrgn, d6, d7, d8]
          clear d6 d7 d8
          refine .inl ⟨rfl, ?_⟩
          unfold Reg.upon
          have hk := Hrgnk.out 9 Lq wq (by decide)  hh.cls
          have hx := Hrgnx.out wq
          have he : Ergn 9 (.bool false) wq := by rw [Hrgne9.out]
          have HK := Lib.hid (And.intro hk (And.intro he hx))
          clear hk hx he
          go_simp
          exact HK.out
        · intro Lq wq xq hh
          have d6 : Ergn 6 (xq 6) wq := hh.val 6 (by kernel_rfl) (by kernel_rfl)
          rw [Hrgne6.out] at d6
          have d9 : Ergn 9 (xq 9) wq := hh.val 9 (by kernel_rfl) (by kernel_rfl)
          rw [Hrgne9.out] at d9
          simp only [hFrgn, d6, d9]
          clear d6 d9
          refine .inl ⟨rfl, ?_⟩
          unfold Reg.upon
          have hk := Hrgnk.out 10 Lq wq (by decide)  hh.cls
          have hx := Hrgnx.out wq
          have he : Ergn 10 (.bool false) wq := by rw [Hrgne10.out]
          have HK := Lib.hid (And.intro hk (And.intro he hx))
          clear hk hx he
          go_simp
          exact HK.out
        · intro Lq wq xq hh
          have d10 : Ergn 10 (xq 10) wq := hh.val 10 (by kernel_rfl) (by kernel_rfl)
          rw [Hrgne10.out] at d10
          simp only [hFrgn, d10]
          clear d10
          refine .inl ⟨rfl, ?_⟩
          unfold Reg.upon
          have hc : Crgn Lq wq := hh.cls
          rw [HrgnhC.out] at hc
          have q0 := ((hc.1 (Mix.one_un (hh.notYet 18 (by kernel_rfl)))).cell (p := ⟨b5, 0, none⟩) HH5.out.lt).trans c5
          clear hc
          have hk := Hrgnk.out 11 Lq wq (by decide)  hh.cls
          have hx := Hrgnx.out wq
          have he : Ergn 11 (.slice a5 e k5) wq := by rw [Hrgne11.out]
          have HK := Lib.hid (And.intro hk (And.intro he hx))
          clear hk hx he
          go_simp
          exact HK.out
        · intro Lq wq xq hh
          have d10 : Ergn 10 (xq 10) wq := hh.val 10 (by kernel_rfl) (by kernel_rfl)
          rw [Hrgne10.out] at d10
          have d11 : Ergn 11 (xq 11) wq := hh.val 11 (by kernel_rfl) (by kernel_rfl)
          rw [Hrgne11.out] at d11
          simp only [hFrgn, d10, d11]
          clear d10 d11
          refine .inl ⟨rfl, ?_⟩
          unfold Reg.upon
          have hk := Hrgnk.out 12 Lq wq (by decide)  hh.cls
          have hx := Hrgnx.out wq
          have he : Ergn 12 (.int .i64 (e : Int)) wq := by rw [Hrgne12.out]
          have HK := Lib.hid (And.intro hk (And.intro he hx))
          clear hk hx he
          go_simp
          exact HK.out
        · intro Lq wq xq hh
          have d10 : Ergn 10 (xq 10) wq := hh.val 10 (by kernel_rfl) (by kernel_rfl)
          rw [Hrgne10.out] at d10
          simp only [hFrgn, d10]
          clear d10
          refine .inl ⟨rfl, ?_⟩
          unfold Reg.upon
          have hk := Hrgnk.out 13 Lq wq (by decide)  hh.cls
          have hx := Hrgnx.out wq
          have he : Ergn 13 (.slice ao n ca) wq := by rw [Hrgne13.out]
          have HK := Lib.hid (And.intro hk (And.intro he hx))
          clear hk hx he
          go_simp
          exact HK.out
        · intro Lq wq xq hh
          have d10 : Ergn 10 (xq 10) wq := hh.val 10 (by kernel_rfl) (by kernel_rfl)
          rw [Hrgne10.out] at d10
          have d13 : Ergn 13 (xq 13) wq := hh.val 13 (by kernel_rfl) (by kernel_rfl)
          rw [Hrgne13.out] at d13
          simp only [hFrgn, d10, d13]
          clear d10 d13
          refine .inl ⟨rfl, ?_⟩
          unfold Reg.upon
          have hk := Hrgnk.out 14 Lq wq (by decide)  hh.cls
          have hx := Hrgnx.out wq
          have he : Ergn 14 (.int .i64 (n : Int)) wq := by rw [Hrgne14.out]
          have HK := Lib.hid (And.intro hk (And.intro he hx))
          clear hk hx he
          go_simp
          exact HK.out
        · intro Lq wq xq hh
          have d10 : Ergn 10 (xq 10) wq := hh.val 10 (by kernel_rfl) (by kernel_rfl)
          rw [Hrgne10.out] at d10
          have d12 : Ergn 12 (xq 12) wq := hh.val 12 (by kernel_rfl) (by kernel_rfl)
          rw [Hrgne12.out] at d12
          have d14 : Ergn 14 (xq 14) wq := hh.val 14 (by kernel_rfl) (by kernel_rfl)
          rw [Hrgne14.out] at d14
          simp only [hFrgn, d10, d12, d14]
          clear d10 d12 d14
          refine .inl ⟨rfl, ?_⟩
          unfold Reg.upon
          have hk := Hrgnk.out 15 Lq wq (by decide)  hh.cls
          have hx := Hrgnx.out wq
          have he : Ergn 15 (.bool true) wq := by rw [Hrgne15.out]
          have HK := Lib.hid (And.intro hk (And.intro he hx))
          clear hk hx he
          go_simp
          exact HK.out
        · intro Lq wq xq hh
          have d6 : Ergn 6 (xq 6) wq := hh.val 6 (by kernel_rfl) (by kernel_rfl)
          rw [Hrgne6.out] at d6
          have d10 : Ergn 10 (xq 10) wq := hh.val 10 (by kernel_rfl) (by kernel_rfl)
          rw [Hrgne10.out] at d10
          have d15 : Ergn 15 (xq 15) wq := hh.val 15 (by kernel_rfl) (by kernel_rfl)
          rw [Hrgne15.out] at d15
          simp only [hFrgn, d6, d10, d15]
          clear d6 d10 d15
          refine .inl ⟨rfl, ?_⟩
          unfold Reg.upon
          have hk := Hrgnk.out 16 Lq wq (by decide)  hh.cls
          have hx := Hrgnx.out wq
          have he : Ergn 16 (.bool true) wq := by rw [Hrgne16.out]
          have HK := Lib.hid (And.intro hk (And.intro he hx))
          clear hk hx he
          go_simp
          exact HK.out
        · intro Lq wq xq hh
          have d6 : Ergn 6 (xq 6) wq := hh.val 6 (by kernel_rfl) (by kernel_rfl)
          rw [Hrgne6.out] at d6
          have d16 : Ergn 16 (xq 16) wq := hh.val 16 (by kernel_rfl) (by kernel_rfl)
          rw [Hrgne16.out] at d16
          simp only [hFrgn, d6, d16]
          clear d6 d16
          refine .inl ⟨rfl, ?_⟩
          unfold Reg.upon
          have hk := Hrgnk.out 17 Lq wq (by decide)  hh.cls
          have hx := Hrgnx.out wq
          have he : Ergn 17 (.bool true) wq := by rw [Hrgne17.out]
          have HK := Lib.hid (And.intro hk (And.intro he hx))
          clear hk hx he
          go_simp
          exact HK.out
        · intro Lq wq xq hh
          have d17 : Ergn 17 (xq 17) wq := hh.val 17 (by kernel_rfl) (by kernel_rfl)
          rw [Hrgne17.out] at d17
          simp only [hFrgn, d17]
          clear d17
          refine .inl ⟨rfl, ?_⟩
          unfold Reg.upon
          have hc : Crgn Lq wq := hh.cls
          rw [HrgnhC.out] at hc
          have hbq := hc.1 hh.un
          have h4 := HH4.out.below hbq HH4.out.lt
          have c9 := h4.cell 0 _ rfl
          have f9 := h4.free 0
          have h5 := h4.set 0 (.bool true)
          have u5 := (Upd.refl (fun b => b = W.heap.size + 1) wq).setCell (p := ⟨W.heap.size + 1, 0, none⟩) (.inl rfl) (.bool true)
          have hF : Crgn (Lq.setIfInBounds 18 true) (World.setCell wq ⟨W.heap.size + 1, 0, none⟩ (.bool true)) ∧ Ergn 18 undef (World.setCell wq ⟨W.heap.size + 1, 0, none⟩ (.bool true)) ∧ Xrgn wq (World.setCell wq ⟨W.heap.size + 1, 0, none⟩ (.bool true)) := by
            refine ⟨?_, by rw [Hrgne18.out], by rw [HrgnhX.out]; exact u5⟩
            rw [HrgnhC.out]
            exact ⟨fun e9 => (by rw [Mix.one_set (by rw [hh.size]; decide)] at e9; exact absurd e9 (by decide)), fun _ => ⟨h5, (Upd.ofBelow hbq).trans u5⟩⟩
          clear hc h5 u5 h4 hbq
          go_simp
          try exact hF
      intro xq wrgn hcrgn hvrgn
      rw [HrgnhC.out] at hcrgn
      simp only [hFrgn]
      clear hvrgn hFrgn Hrgnk Hrgnx Hrgnst Hrgnc HrgnhC HrgnhX Hrgnb Hrgnxb Hrgne0 Hrgne1 Hrgne2 Hrgne3 Hrgne4 Hrgne5 Hrgne6 Hrgne7 Hrgne8 Hrgne9 Hrgne10 Hrgne11 Hrgne12 Hrgne13 Hrgne14 Hrgne15 Hrgne16 Hrgne17 Hrgne18
      obtain ⟨q1, q2⟩ := hcrgn.2 (by kernel_rfl)
      have hK9 := (q2.block w3.heap.size (by have := (Array.getElem?_eq_some_iff.1 HK.out).1; exact this) (by have := HE4.out; omega)).trans HK.out
      have hlt9 : W.heap.size + 1 < w3.heap.size := by have := HE4.out; omega
      have uD := upd_putObj (S := fun b => b = w3.heap.size) wrgn w3.heap.size (.deferred none) rfl
      have HR := Lib.hid (uD.keep.has q1 (by omega))
      have HBF := Lib.hid ((HBW.out.upd q2 HBW.out.size (fun b h => by omega)).upd uD (by have := HBW.out.size; have := q2.size; omega) (fun b h => by omega))
      have r0 := HR.out.cell 0 _ rfl
      clear hcrgn q1 q2 uD
      gi_wp2
      refine ⟨by simp, .inl ⟨_, _, rfl, run_takeDeferred hK9, ?_⟩⟩
      exact ⟨.bool true, by simp [results, Try.results4, go_sem, r0], rfl, HBF.out⟩
  case stop =>
    rintro hi c pre w4 _ ⟨hc, q1, q2, q3, q4, q5, va, k, q6, q7, q7b, q8, q9, q10⟩ hK
    subst hc
    have HE4 := Lib.hid (show W.heap.size + 1 < b5 ∧ b5 + 2 ≤ w3.heap.size from ⟨HLT.out, HS3.out⟩)
    have hel := endC_le xs k (by omega)
    obtain ⟨e, he⟩ : ∃ e, e = endC xs k := ⟨_, rfl⟩
    rw [← he] at q10 hel
    have hxl : (xs.take e).length = e := by rw [List.length_take]; omega
    have HTK := Lib.hid (show (xs.take e).length ≤ 9223372036854775807 from by rw [hxl]; have := HN.out; omega)
    obtain ⟨XA, hXA⟩ : ∃ XA, XA = xs.take e := ⟨_, rfl⟩
    have HXA := Lib.hid hXA
    rw [← hXA] at q10 hxl HTK
    have HO := Lib.hid (q10.held (Z := fun b => hi ≤ b) (fun b h _ => h)).ints
    obtain ⟨a5, k5, hva⟩ := HO.out.len
    rw [hxl] at hva
    have hen : e ≤ n := by rw [HN.out]; exact hel
    have c5 := q9.cell 0 _ rfl
    rw [hva] at c5 HO
    have HH3 := Lib.hid q2
    have HH4 := Lib.hid q3
    have HH5 := Lib.hid q9
    have HH6 := Lib.hid q8
    have HBW := Lib.hid q4
    rw [hva] at HH5
    have HK := Lib.hid hK
    have HXL := Lib.hid hxl
    have hgt : decide ((n : Int) < e) = false := by rw [decide_eq_false_iff_not]; omega
    have hgtn : decide (n < e) = false := by rw [decide_eq_false_iff_not]; omega
    have HHI := Lib.hid q1
    have hlh : e ≤ ca := by omega
    have hkm : ((k : Int) == M) = true := by rw [beq_iff_eq]; exact (q7b rfl).symm
    clear q1 q2 q3 q4 q5 q6 q7 q7b q8 q9 q10 hva hXA he hxl hK hel
    gi_upto_region 15 with (fail)
    obtain ⟨Ergs, hErgs⟩ : ∃ EE : Nat → Value → World → Prop, EE = fun jj xx ww => match jj with
        | 0 => xx = .slice a5 e k5
        | 1 => xx = .slice ao n ca
        | 2 => xx = .slice a5 e k5
        | 3 => xx = .int .i64 (e : Int)
        | 4 => (fun x w' => HeldE (intE .i32) (fun b => b < W.heap.size) w' x XA) xx ww
        | 5 => xx = .bool true
        | 6 => xx = .bool true
        | 7 => xx = .int .i64 (k : Int)
        | 8 => xx = .int .i64 M
        | 9 => xx = .bool true
        | 10 => xx = .bool true
        | 11 => xx = undef
        | 12 => xx = undef
        | 13 => xx = undef
        | 14 => xx = undef
        | 15 => xx = undef
        | 16 => xx = .bool true
        | 17 => xx = .bool true
        | 18 => xx = undef
        | _ => True := ⟨_, rfl⟩
    have ergs0 : ∀ xx ww, Ergs 0 xx ww = (xx = .slice a5 e k5) := fun xx ww => congrFun (congrFun (congrFun hErgs 0) xx) ww
    have ergs1 : ∀ xx ww, Ergs 1 xx ww = (xx = .slice ao n ca) := fun xx ww => congrFun (congrFun (congrFun hErgs 1) xx) ww
    have ergs2 : ∀ xx ww, Ergs 2 xx ww = (xx = .slice a5 e k5) := fun xx ww => congrFun (congrFun (congrFun hErgs 2) xx) ww
    have ergs3 : ∀ xx ww, Ergs 3 xx ww = (xx = .int .i64 (e : Int)) := fun xx ww => congrFun (congrFun (congrFun hErgs 3) xx) ww
    have ergs4 : ∀ xx ww, Ergs 4 xx ww = ((fun x w' => HeldE (intE .i32) (fun b => b < W.heap.size) w' x XA) xx ww) := fun xx ww => congrFun (congrFun (congrFun hErgs 4) xx) ww
    have ergs5 : ∀ xx ww, Ergs 5 xx ww = (xx = .bool true) := fun xx ww => congrFun (congrFun (congrFun hErgs 5) xx) ww
    have ergs6 : ∀ xx ww, Ergs 6 xx ww = (xx = .bool true) := fun xx ww => congrFun (congrFun (congrFun hErgs 6) xx) ww
    have ergs7 : ∀ xx ww, Ergs 7 xx ww = (xx = .int .i64 (k : Int)) := fun xx ww => congrFun (congrFun (congrFun hErgs 7) xx) ww
    have ergs8 : ∀ xx ww, Ergs 8 xx ww = (xx = .int .i64 M) := fun xx ww => congrFun (congrFun (congrFun hErgs 8) xx) ww
    have ergs9 : ∀ xx ww, Ergs 9 xx ww = (xx = .bool true) := fun xx ww => congrFun (congrFun (congrFun hErgs 9) xx) ww
    have ergs10 : ∀ xx ww, Ergs 10 xx ww = (xx = .bool true) := fun xx ww => congrFun (congrFun (congrFun hErgs 10) xx) ww
    have ergs11 : ∀ xx ww, Ergs 11 xx ww = (xx = undef) := fun xx ww => congrFun (congrFun (congrFun hErgs 11) xx) ww
    have ergs12 : ∀ xx ww, Ergs 12 xx ww = (xx = undef) := fun xx ww => congrFun (congrFun (congrFun hErgs 12) xx) ww
    have ergs13 : ∀ xx ww, Ergs 13 xx ww = (xx = undef) := fun xx ww => congrFun (congrFun (congrFun hErgs 13) xx) ww
    have ergs14 : ∀ xx ww, Ergs 14 xx ww = (xx = undef) := fun xx ww => congrFun (congrFun (congrFun hErgs 14) xx) ww
    have ergs15 : ∀ xx ww, Ergs 15 xx ww = (xx = undef) := fun xx ww => congrFun (congrFun (congrFun hErgs 15) xx) ww
    have ergs16 : ∀ xx ww, Ergs 16 xx ww = (xx = .bool true) := fun xx ww => congrFun (congrFun (congrFun hErgs 16) xx) ww
    have ergs17 : ∀ xx ww, Ergs 17 xx ww = (xx = .bool true) := fun xx ww => congrFun (congrFun (congrFun hErgs 17) xx) ww
    have ergs18 : ∀ xx ww, Ergs 18 xx ww = (xx = undef) := fun xx ww => congrFun (congrFun (congrFun hErgs 18) xx) ww
    obtain ⟨Crgs, hCrgs⟩ : ∃ CC : Array Bool → World → Prop, CC = fun L8 w' => (Mix.one L8 18 = 0 → Below w4.heap.size w4 w') ∧ (Mix.one L8 18 = 1 → Has w' (W.heap.size + 1) [.bool true] 4 ∧ Upd (fun b => b = W.heap.size + 1) w4 w') := ⟨_, rfl⟩
    have krgs : ∀ i L w, i ≠ 18 →  Crgs L w → Crgs (L.setIfInBounds i true) w := by
      intro i L w q18 h
      rw [hCrgs] at h ⊢
      simp only [Mix.one_ne q18]; exact h
    obtain ⟨Xrgs, hXrgs⟩ : ∃ XX : World → World → Prop, XX = fun x y => Upd (fun b => b = W.heap.size + 1) x y := ⟨_, rfl⟩
    have xrgs : ∀ w, Xrgs w w := fun w => by rw [hXrgs]; exact Upd.refl _ _
    have strgs : ∀ j x w w1, Xrgs w w1 → Ergs j x w → Ergs j x w1 := by
      intro j x w w1 hx h
      rw [hXrgs] at hx
      match j with
      | 0 => rw [ergs0] at h ⊢; exact h
      | 1 => rw [ergs1] at h ⊢; exact h
      | 2 => rw [ergs2] at h ⊢; exact h
      | 3 => rw [ergs3] at h ⊢; exact h
      | 4 => rw [ergs4] at h ⊢; (exact HeldE.upd h hx (fun b hb e => by omega))
      | 5 => rw [ergs5] at h ⊢; exact h
      | 6 => rw [ergs6] at h ⊢; exact h
      | 7 => rw [ergs7] at h ⊢; exact h
      | 8 => rw [ergs8] at h ⊢; exact h
      | 9 => rw [ergs9] at h ⊢; exact h
      | 10 => rw [ergs10] at h ⊢; exact h
      | 11 => rw [ergs11] at h ⊢; exact h
      | 12 => rw [ergs12] at h ⊢; exact h
      | 13 => rw [ergs13] at h ⊢; exact h
      | 14 => rw [ergs14] at h ⊢; exact h
      | 15 => rw [ergs15] at h ⊢; exact h
      | 16 => rw [ergs16] at h ⊢; exact h
      | 17 => rw [ergs17] at h ⊢; exact h
      | 18 => rw [ergs18] at h ⊢; exact h
      | j + 19 => rw [hErgs]; trivial
    have crgs : Crgs (Array.replicate 19 false) w4.drew := by rw [hCrgs]; exact ⟨fun _ => (Below.refl _ _).drew, fun e => absurd e (by decide)⟩
    have brgs : ∀ L w w1, Crgs L w → Below w.heap.size w w1 → Crgs L w1 := by
      intro L w w1 h hb
      rw [hCrgs] at h ⊢
      (obtain ⟨q1, q2⟩ := h; exact ⟨fun e => (q1 e).trans (hb.mono (q1 e).size), fun e => ⟨(q2 e).1.below hb (q2 e).1.lt, (q2 e).2.trans (.ofBelow hb)⟩⟩)
    have xbrgs : ∀ w w1, Below w.heap.size w w1 → Xrgs w w1 := by
      intro w w1 hb
      rw [hXrgs]
      exact Upd.ofBelow hb
    have Hrgsb := Lib.hid brgs
    have Hrgsxb := Lib.hid xbrgs
    clear brgs xbrgs
    clear hErgs
    have Hrgsk := Lib.hid krgs
    have Hrgsx := Lib.hid xrgs
    have Hrgsst := Lib.hid strgs
    have Hrgsc := Lib.hid crgs
    have HrgshC := Lib.hid hCrgs
    have HrgshX := Lib.hid hXrgs
    have Hrgse0 := Lib.hid ergs0
    have Hrgse1 := Lib.hid ergs1
    have Hrgse2 := Lib.hid ergs2
    have Hrgse3 := Lib.hid ergs3
    have Hrgse4 := Lib.hid ergs4
    have Hrgse5 := Lib.hid ergs5
    have Hrgse6 := Lib.hid ergs6
    have Hrgse7 := Lib.hid ergs7
    have Hrgse8 := Lib.hid ergs8
    have Hrgse9 := Lib.hid ergs9
    have Hrgse10 := Lib.hid ergs10
    have Hrgse11 := Lib.hid ergs11
    have Hrgse12 := Lib.hid ergs12
    have Hrgse13 := Lib.hid ergs13
    have Hrgse14 := Lib.hid ergs14
    have Hrgse15 := Lib.hid ergs15
    have Hrgse16 := Lib.hid ergs16
    have Hrgse17 := Lib.hid ergs17
    have Hrgse18 := Lib.hid ergs18
    clear krgs xrgs strgs crgs hCrgs hXrgs ergs0 ergs1 ergs2 ergs3 ergs4 ergs5 ergs6 ergs7 ergs8 ergs9 ergs10 ergs11 ergs12 ergs13 ergs14 ergs15 ergs16 ergs17 ergs18
    gi_wp2_with fail
    refine Reg.regionFIn (fun _ => trivial) rfl Reg.calls_wide (by kernel_rfl) Ergs Crgs Xrgs Hrgsst.out (by kernel_rfl) (by kernel_rfl) (by kernel_rfl) Hrgsc.out (fun Frgs hFrgs => ?_)
    simp only [Reg.frame, Reg.dsts, List.map_cons, List.map_nil, Mix.put_lit, Reg.put_none, List.set_cons_succ, List.set_cons_zero, Nat.zero_add, Nat.reduceAdd] at hFrgs
    refine ⟨?_, ?_⟩
    · refine ⟨?_, ?_, ?_, ?_, ?_, ?_, ?_, ?_, ?_, ?_, ?_, ?_, ?_, ?_, ?_, ?_, ?_, ?_, ?_, trivial⟩
      · intro Lq wq xq hh
        simp only [hFrgs]
        refine .inl ⟨rfl, ?_⟩
        unfold Reg.upon
        have hc : Crgs Lq wq := hh.cls
        rw [HrgshC.out] at hc
        have q0 := ((hc.1 (Mix.one_un (hh.notYet 18 (by kernel_rfl)))).cell (p := ⟨b5, 0, none⟩) HH5.out.lt).trans c5
        clear hc
        have hk := Hrgsk.out 0 Lq wq (by decide)  hh.cls
        have hx := Hrgsx.out wq
        have he : Ergs 0 (.slice a5 e k5) wq := by rw [Hrgse0.out]
        have HK := Lib.hid (And.intro hk (And.intro he hx))
        clear hk hx he
        go_simp
        exact HK.out
      · intro Lq wq xq hh
        simp only [hFrgs]
        refine .inl ⟨rfl, ?_⟩
        unfold Reg.upon
        have hk := Hrgsk.out 1 Lq wq (by decide)  hh.cls
        have hx := Hrgsx.out wq
        have he : Ergs 1 (.slice ao n ca) wq := by rw [Hrgse1.out]
        have HK := Lib.hid (And.intro hk (And.intro he hx))
        clear hk hx he
        go_simp
        exact HK.out
      · intro Lq wq xq hh
        simp only [hFrgs]
        refine .inl ⟨rfl, ?_⟩
        unfold Reg.upon
        have hc : Crgs Lq wq := hh.cls
        rw [HrgshC.out] at hc
        have q0 := ((hc.1 (Mix.one_un (hh.notYet 18 (by kernel_rfl)))).cell (p := ⟨b5, 0, none⟩) HH5.out.lt).trans c5
        clear hc
        have hk := Hrgsk.out 2 Lq wq (by decide)  hh.cls
        have hx := Hrgsx.out wq
        have he : Ergs 2 (.slice a5 e k5) wq := by rw [Hrgse2.out]
        have HK := Lib.hid (And.intro hk (And.intro he hx))
        clear hk hx he
        go_simp
        exact HK.out
      · intro Lq wq xq hh
        have d2 : Ergs 2 (xq 2) wq := hh.val 2 (by kernel_rfl) (by kernel_rfl)
        rw [Hrgse2.out] at d2
        simp only [hFrgs, d2]
        clear d2
        refine .inl ⟨rfl, ?_⟩
        unfold Reg.upon
        have hk := Hrgsk.out 3 Lq wq (by decide)  hh.cls
        have hx := Hrgsx.out wq
        have he : Ergs 3 (.int .i64 (e : Int)) wq := by rw [Hrgse3.out]
        have HK := Lib.hid (And.intro hk (And.intro he hx))
        clear hk hx he
        go_simp
        exact HK.out
      · intro Lq wq xq hh
        have d1 : Ergs 1 (xq 1) wq := hh.val 1 (by kernel_rfl) (by kernel_rfl)
        rw [Hrgse1.out] at d1
        have d3 : Ergs 3 (xq 3) wq := hh.val 3 (by kernel_rfl) (by kernel_rfl)
        rw [Hrgse3.out] at d3
        simp only [hFrgs, d1, d3]
        clear d1 d3
        refine .inl ⟨rfl, ?_⟩
        unfold Reg.upon
        have hc : Crgs Lq wq := hh.cls
        rw [HrgshC.out] at hc
        have hbq := hc.1 (Mix.one_un (hh.notYet 18 (by kernel_rfl)))
        have hq := HQE.out wq (HBW.out.trans (hbq.mono HBW.out.size))
        have hK4 := Hrgsk.out 4 Lq wq (by decide) hh.cls
        have hx4 := Hrgsx.out wq
        have hE4 : ∀ vv, HeldE (intE .i32) (fun b => b < W.heap.size) wq vv XA → Ergs 4 vv wq := fun vv h => by rw [Hrgse4.out]; exact h
        have hnil : ao = none → xs = [] ∧ ca = 0 := fun h => by rw [h] at hq; have := hq.nilL; exact ⟨this.1, this.2.2⟩
        have hhe : HeldE (intE .i32) (fun b => b < W.heap.size) wq (.slice ao e ca) XA := by
          rw [HXA.out]
          cases hao : ao with
          | none =>
            have hz := hnil hao
            rw [hz.1, List.take_nil]
            have : e = 0 := by have := hz.2; omega
            rw [this, hz.2]
            exact HeldE.nil _ _ _
          | some ad =>
            have hq2 := hq
            rw [hao] at hq2
            have hp := hq2.part 0 e (Nat.zero_le _) (by rw [← HN.out]; exact hen) (some ad) ca (fun h => by cases h) (fun b off h _ => by cases h; simp) (fun _ _ => by simp) (by omega) (by obtain ⟨_, _, e9, _, hm9, _⟩ := hq2; cases e9; exact hm9)
            simpa using hp
        have hF := hE4 _ hhe
        have hca0 : ao = none → e = 0 ∧ ca = 0 := fun h => by have := (hnil h).2; omega
        clear hnil hE4 hhe hq hbq hc
        cases ao with
        | none => (obtain ⟨he0, hca1⟩ := hca0 rfl; subst he0 hca1; go_simp; exact ⟨hK4, hF, hx4⟩)
        | some ad => go_simp; exact ⟨hK4, hF, hx4⟩
      · intro Lq wq xq hh
        have d0 : Ergs 0 (xq 0) wq := hh.val 0 (by kernel_rfl) (by kernel_rfl)
        rw [Hrgse0.out] at d0
        have d4 : Ergs 4 (xq 4) wq := hh.val 4 (by kernel_rfl) (by kernel_rfl)
        rw [Hrgse4.out] at d4
        simp only [hFrgs, d0]
        clear d0
        refine .inl ⟨rfl, ?_⟩
        unfold Reg.upon
        have hc : Crgs Lq wq := hh.cls
        rw [HrgshC.out] at hc
        go_simp
        refine (same_any _ _ XA XA wq (HO.out.below (hc.1 (Mix.one_un (hh.notYet 18 (by kernel_rfl))))) d4.ints HTK.out).mono ?_
        rintro e9 w2 ⟨rfl, hb⟩
        refine ⟨_, rfl, Hrgsk.out 5 Lq w2 (by decide) (Hrgsb.out Lq wq w2 hh.cls hb), ?_, Hrgsxb.out wq w2 hb⟩
        rw [Hrgse5.out, sameB_self]
      · intro Lq wq xq hh
        have d5 : Ergs 5 (xq 5) wq := hh.val 5 (by kernel_rfl) (by kernel_rfl)
        rw [Hrgse5.out] at d5
        simp only [hFrgs, d5]
        clear d5
        refine .inl ⟨rfl, ?_⟩
        unfold Reg.upon
        have hk := Hrgsk.out 6 Lq wq (by decide)  hh.cls
        have hx := Hrgsx.out wq
        have he : Ergs 6 (.bool true) wq := by rw [Hrgse6.out]
        have HK := Lib.hid (And.intro hk (And.intro he hx))
        clear hk hx he
        go_simp
        exact HK.out
      · intro Lq wq xq hh
        have d6 : Ergs 6 (xq 6) wq := hh.val 6 (by kernel_rfl) (by kernel_rfl)
        rw [Hrgse6.out] at d6
        simp only [hFrgs, d6]
        clear d6
        refine .inl ⟨rfl, ?_⟩
        unfold Reg.upon
        have hc : Crgs Lq wq := hh.cls
        rw [HrgshC.out] at hc
        have q0 := ((hc.1 (Mix.one_un (hh.notYet 18 (by kernel_rfl)))).cell (p := ⟨b5 + 1, 0, none⟩) HH6.out.lt).trans (HH6.out.cell 0 _ rfl)
        clear hc
        have hk := Hrgsk.out 7 Lq wq (by decide)  hh.cls
        have hx := Hrgsx.out wq
        have he : Ergs 7 (.int .i64 (k : Int)) wq := by rw [Hrgse7.out]
        have HK := Lib.hid (And.intro hk (And.intro he hx))
        clear hk hx he
        go_simp
        exact HK.out
      · intro Lq wq xq hh
        have d6 : Ergs 6 (xq 6) wq := hh.val 6 (by kernel_rfl) (by kernel_rfl)
        rw [Hrgse6.out] at d6
        simp only [hFrgs, d6]
        clear d6
        refine .inl ⟨rfl, ?_⟩
        unfold Reg.upon
        have hc : Crgs Lq wq := hh.cls
        rw [HrgshC.out] at hc
        have q0 := ((hc.1 (Mix.one_un (hh.notYet 18 (by kernel_rfl)))).cell (p := ⟨W.heap.size, 0, none⟩) HH3.out.lt).trans (HH3.out.cell 0 _ rfl)
        clear hc
        have hk := Hrgsk.out 8 Lq wq (by decide)  hh.cls
        have hx := Hrgsx.out wq
        have he : Ergs 8 (.int .i64 M) wq := by rw [Hrgse8.out]
        have HK := Lib.hid (And.intro hk (And.intro he hx))
        clear hk hx he
        go_simp
        exact HK.out
      · intro Lq wq xq hh
        have d6 : Ergs 6 (xq 6) wq := hh.val 6 (by kernel_rfl) (by kernel_rfl)
        rw [Hrgse6.out] at d6
        have d7 : Ergs 7 (xq 7) wq := hh.val 7 (by kernel_rfl) (by kernel_rfl)
        rw [Hrgse7.out] at d7
        have d8 : Ergs 8 (xq 8) wq := hh.val 8 (by kernel_rfl) (by kernel_rfl)
        rw [Hrgse8.out] at d8
        simp only [hFrgs, d6, d7, d8]
        clear d6 d7 d8
        refine .inl ⟨rfl, ?_⟩
        unfold Reg.upon
        have hk := Hrgsk.out 9 Lq wq (by decide)  hh.cls
        have hx := Hrgsx.out wq
        have he : Ergs 9 (.bool true) wq := by rw [Hrgse9.out]
        have HK := Lib.hid (And.intro hk (And.intro he hx))
        clear hk hx he
        go_simp
        exact HK.out
      · intro Lq wq xq hh
        have d6 : Ergs 6 (xq 6) wq := hh.val 6 (by kernel_rfl) (by kernel_rfl)
        rw [Hrgse6.out] at d6
        have d9 : Ergs 9 (xq 9) wq := hh.val 9 (by kernel_rfl) (by kernel_rfl)
        rw [Hrgse9.out] at d9
        simp only [hFrgs, d6, d9]
        clear d6 d9
        refine .inl ⟨rfl, ?_⟩
        unfold Reg.upon
        have hk := Hrgsk.out 10 Lq wq (by decide)  hh.cls
        have hx := Hrgsx.out wq
        have he : Ergs 10 (.bool true) wq := by rw [Hrgse10.out]
        have HK := Lib.hid (And.intro hk (And.intro he hx))
        clear hk hx he
        go_simp
        exact HK.out
      · intro Lq wq xq hh
        have d10 : Ergs 10 (xq 10) wq := hh.val 10 (by kernel_rfl) (by kernel_rfl)
        rw [Hrgse10.out] at d10
        simp only [hFrgs, d10]
        clear d10
        exact .inr ⟨rfl, Hrgsk.out 11 Lq wq (by decide)  hh.cls, (by rw [Hrgse11.out])⟩
      · intro Lq wq xq hh
        have d10 : Ergs 10 (xq 10) wq := hh.val 10 (by kernel_rfl) (by kernel_rfl)
        rw [Hrgse10.out] at d10
        have d11 : Ergs 11 (xq 11) wq := hh.val 11 (by kernel_rfl) (by kernel_rfl)
        rw [Hrgse11.out] at d11
        simp only [hFrgs, d10, d11]
        clear d10 d11
        exact .inr ⟨rfl, Hrgsk.out 12 Lq wq (by decide)  hh.cls, (by rw [Hrgse12.out])⟩
      · intro Lq wq xq hh
        have d10 : Ergs 10 (xq 10) wq := hh.val 10 (by kernel_rfl) (by kernel_rfl)
        rw [Hrgse10.out] at d10
        simp only [hFrgs, d10]
        clear d10
        exact .inr ⟨rfl, Hrgsk.out 13 Lq wq (by decide)  hh.cls, (by rw [Hrgse13.out])⟩
      · intro Lq wq xq hh
        have d10 : Ergs 10 (xq 10) wq := hh.val 10 (by kernel_rfl) (by kernel_rfl)
        rw [Hrgse10.out] at d10
        have d13 : Ergs 13 (xq 13) wq := hh.val 13 (by kernel_rfl) (by kernel_rfl)
        rw [Hrgse13.out] at d13
        simp only [hFrgs, d10, d13]
        clear d10 d13
        exact .inr ⟨rfl, Hrgsk.out 14 Lq wq (by decide)  hh.cls, (by rw [Hrgse14.out])⟩
      · intro Lq wq xq hh
        have d10 : Ergs 10 (xq 10) wq := hh.val 10 (by kernel_rfl) (by kernel_rfl)
        rw [Hrgse10.out] at d10
        have d12 : Ergs 12 (xq 12) wq := hh.val 12 (by kernel_rfl) (by kernel_rfl)
        rw [Hrgse12.out] at d12
        have d14 : Ergs 14 (xq 14) wq := hh.val 14 (by kernel_rfl) (by kernel_rfl)
        rw [Hrgse14.out] at d14
        simp only [hFrgs, d10, d12, d14]
        clear d10 d12 d14
        exact .inr ⟨rfl, Hrgsk.out 15 Lq wq (by decide)  hh.cls, (by rw [Hrgse15.out])⟩
      · intro Lq wq xq hh
        have d6 : Ergs 6 (xq 6) wq := hh.val 6 (by kernel_rfl) (by kernel_rfl)
        rw [Hrgse6.out] at d6
        have d10 : Ergs 10 (xq 10) wq := hh.val 10 (by kernel_rfl) (by kernel_rfl)
        rw [Hrgse10.out] at d10
        have d15 : Ergs 15 (xq 15) wq := hh.val 15 (by kernel_rfl) (by kernel_rfl)
        rw [Hrgse15.out] at d15
        simp only [hFrgs, d6, d10, d15]
        clear d6 d10 d15
        refine .inl ⟨rfl, ?_⟩
        unfold Reg.upon
        have hk := Hrgsk.out 16 Lq wq (by decide)  hh.cls
        have hx := Hrgsx.out wq
        have he : Ergs 16 (.bool true) wq := by rw [Hrgse16.out]
        have HK := Lib.hid (And.intro hk (And.intro he hx))
        clear hk hx he
        go_simp
        exact HK.out
      · intro Lq wq xq hh
        have d6 : Ergs 6 (xq 6) wq := hh.val 6 (by kernel_rfl) (by kernel_rfl)
        rw [Hrgse6.out] at d6
        have d16 : Ergs 16 (xq 16) wq := hh.val 16 (by kernel_rfl) (by kernel_rfl)
        rw [Hrgse16.out] at d16
        simp only [hFrgs, d6, d16]
        clear d6 d16
        refine .inl ⟨rfl, ?_⟩
        unfold Reg.upon
        have hk := Hrgsk.out 17 Lq wq (by decide)  hh.cls
        have hx := Hrgsx.out wq
        have he : Ergs 17 (.bool true) wq := by rw [Hrgse17.out]
        have HK := Lib.hid (And.intro hk (And.intro he hx))
        clear hk hx he
        go_simp
        exact HK.out
      · intro Lq wq xq hh
        have d17 : Ergs 17 (xq 17) wq := hh.val 17 (by kernel_rfl) (by kernel_rfl)
        rw [Hrgse17.out] at d17
        simp only [hFrgs, d17]
        clear d17
        refine .inl ⟨rfl, ?_⟩
        unfold Reg.upon
        have hc : Crgs Lq wq := hh.cls
        rw [HrgshC.out] at hc
        have hbq := hc.1 hh.un
        have h4 := HH4.out.below hbq HH4.out.lt
        have c9 := h4.cell 0 _ rfl
        have f9 := h4.free 0
        have h5 := h4.set 0 (.bool true)
        have u5 := (Upd.refl (fun b => b = W.heap.size + 1) wq).setCell (p := ⟨W.heap.size + 1, 0, none⟩) (.inl rfl) (.bool true)
        have hF : Crgs (Lq.setIfInBounds 18 true) (World.setCell wq ⟨W.heap.size + 1, 0, none⟩ (.bool true)) ∧ Ergs 18 undef (World.setCell wq ⟨W.heap.size + 1, 0, none⟩ (.bool true)) ∧ Xrgs wq (World.setCell wq ⟨W.heap.size + 1, 0, none⟩ (.bool true)) := by
          refine ⟨?_, by rw [Hrgse18.out], by rw [HrgshX.out]; exact u5⟩
          rw [HrgshC.out]
          exact ⟨fun e9 => (by rw [Mix.one_set (by rw [hh.size]; decide)] at e9; exact absurd e9 (by decide)), fun _ => ⟨h5, (Upd.ofBelow hbq).trans u5⟩⟩
        clear hc h5 u5 h4 hbq
        go_simp
        try exact hF
    intro xq wrgs hcrgs hvrgs
    rw [HrgshC.out] at hcrgs
    simp only [hFrgs]
    clear hvrgs hFrgs Hrgsk Hrgsx Hrgsst Hrgsc HrgshC HrgshX Hrgsb Hrgsxb Hrgse0 Hrgse1 Hrgse2 Hrgse3 Hrgse4 Hrgse5 Hrgse6 Hrgse7 Hrgse8 Hrgse9 Hrgse10 Hrgse11 Hrgse12 Hrgse13 Hrgse14 Hrgse15 Hrgse16 Hrgse17 Hrgse18
    obtain ⟨q1, q2⟩ := hcrgs.2 (by kernel_rfl)
    have hK9 := (q2.block w3.heap.size (by have := (Array.getElem?_eq_some_iff.1 HK.out).1; exact this) (by have := HE4.out; omega)).trans HK.out
    have hlt9 : W.heap.size + 1 < w3.heap.size := by have := HE4.out; omega
    have uD := upd_putObj (S := fun b => b = w3.heap.size) wrgs w3.heap.size (.deferred none) rfl
    have HR := Lib.hid (uD.keep.has q1 (by omega))
    have HBF := Lib.hid ((HBW.out.upd q2 HBW.out.size (fun b h => by omega)).upd uD (by have := HBW.out.size; have := q2.size; omega) (fun b h => by omega))
    have r0 := HR.out.cell 0 _ rfl
    clear hcrgs q1 q2 uD
    gi_wp2
    refine ⟨by simp, .inl ⟨_, _, rfl, run_takeDeferred hK9, ?_⟩⟩
    exact ⟨.bool true, by simp [results, Try.results4, go_sem, r0], rfl, HBF.out⟩
  case body =>
    rintro l hi pre x w4 hlo hhi ⟨q1, q2, q3, q4, q5, va, k, q6, q7, q7b, q8, q9, q10⟩ ⟨wx, hx, hux⟩ hR
    have hx := hx.upd hux (fun b h1 h2 => by omega)
    obtain ⟨hk, hpre⟩ := q7 rfl
    obtain ⟨r1, r2, r3⟩ := next_cu hR
    rw [← hk] at r1 r2
    have hok := clS_ok xs k r1
    have hel := endC_le xs k (by omega)
    have c3 := q2.cell 0 _ rfl
    have c6 := q8.cell 0 _ rfl
    by_cases hM : M = (k : Int)
    · have ht : ((k : Int) == M) = true := by rw [beq_iff_eq]; omega
      have HE := Lib.hid (show HandI W W.heap.size (W.heap.size + 1) b5 (b5 + 1) (w3.heap.size + 2) xs M true hi (pre ++ [x]) w4 from ⟨q1, q2, q3, q4, q5, va, k, q6, fun e => absurd e (by decide), fun _ => hM, q8, q9, q10⟩)
      clear q1 q2 q3 q4 q5 q6 q7 q7b q8 q9 q10 hM hk r2 hok hx hR hpre r3
      gi_wp2
      exact ⟨Upd.refl _ _, rfl, HE.out⟩
    · have ht : ((k : Int) == M) = false := by rw [beq_eq_false_iff_ne]; exact fun e => hM e.symm
      obtain ⟨⟨a, b⟩, xv⟩ := x
      have hae : a = endC xs k := congrArg Prod.fst r2
      have hbe : b = endC xs (k + 1) := congrArg Prod.snd r2
      rw [← hae] at q10 hok hel
      rw [← hbe] at hok
      have hxh := hx.held
      obtain ⟨g, hxv, g1, g2, g3, g4, g5, g6⟩ := hx
      simp only at hxv g4 g5
      subst hxv
      have HPRE := Lib.hid (show ((pre ++ [(⟨(a, b), .slice (some ⟨g, a, none⟩) (b - a) (b - a)⟩ : Cu)]).map Cu.p = (clS xs).take (k + 1)) ∧ k + 1 = (pre ++ [(⟨(a, b), .slice (some ⟨g, a, none⟩) (b - a) (b - a)⟩ : Cu)]).length from by
        have h9 := List.prefix_iff_eq_take.1 hR
        rw [List.length_map, List.length_append, List.length_singleton, ← hk] at h9
        exact ⟨h9, by rw [List.length_append, List.length_singleton, hk]⟩)
      have HCAT := Lib.hid (show xs.take a ++ sliceL xs (a, b) = xs.take b from sliceL_next xs a b (Nat.le_of_lt g4))
      have HBE := Lib.hid hbe
      have HR1 := Lib.hid r1
      have hsl := sliceL_len xs (a, b) (Nat.le_of_lt g4) g5
      have htl : (xs.take a).length = a := by rw [List.length_take]; omega
      have HX := Lib.hid (show HeldE (intE .i32) (fun b9 => True ∧ va.ownBlock ≠ some b9) w4 (.slice (some ⟨g, a, none⟩) (b - a) (b - a)) (sliceL xs (a, b)) from by
        have := heldE_ints (Z := fun b9 => True ∧ va.ownBlock ≠ some b9) hxh (Nat.le_refl _) (by show b - a ≤ _; unfold maxLen; have := HN.out; omega) (fun ad e _ => by cases e; exact ⟨trivial, fun e2 => Nat.lt_irrefl _ (Nat.lt_of_lt_of_le g2 (q10.lt g e2).1)⟩)
        exact this)
      have HSL := Lib.hid (show (sliceL xs (a, b)).length = b - a from hsl)
      have hcl : (xs.take b).length = b := by rw [List.length_take]; omega
      obtain ⟨XC, hXC⟩ : ∃ XC, XC = xs.take b := ⟨_, rfl⟩
      rw [← hXC] at HCAT hcl
      have HXC := Lib.hid hXC
      have HCLN := Lib.hid hcl
      clear hXC hcl
      obtain ⟨XA, hXA⟩ : ∃ XA, XA = xs.take a := ⟨_, rfl⟩
      obtain ⟨XB, hXB⟩ : ∃ XB, XB = sliceL xs (a, b) := ⟨_, rfl⟩
      rw [← hXA] at q10 htl HCAT
      rw [← hXB] at HX HSL HCAT
      have HTL := Lib.hid htl
      have HO := Lib.hid q10
      have HLO := Lib.hid (fun b9 e => q10.lt b9 e)
      obtain ⟨a5, k5, hva⟩ := (q10.held (Z := fun _ => True) (fun _ _ _ => trivial)).len
      rw [htl] at hva
      have c5 := q9.cell 0 _ rfl
      rw [hva] at c5
      have HH3 := Lib.hid q2
      have HH4 := Lib.hid q3
      have HH5 := Lib.hid q9
      have HH6 := Lib.hid q8
      have HBW := Lib.hid q4
      have HHI := Lib.hid (And.intro q1 q5)
      have HB5 := Lib.hid (show W.heap.size + 1 < b5 ∧ b5 + 2 ≤ w3.heap.size from ⟨HLT.out, HS3.out⟩)
      have haa : ((a : Int) != (a : Int)) = false := by simp
      have hba : (((b - a : Nat) : Int) == 0) = false := by rw [beq_eq_false_iff_ne]; omega
      have hkn : k ≤ 1000 := by have := clS_len xs; rw [← HN.out] at this; omega
      have hbn : b ≤ 1000 := by have := HN.out; omega
      have han : a ≤ 1000 := by omega
      rw [hva] at HO HX HLO HH5
      clear q1 q2 q3 q4 q5 q6 q7 q7b q8 q9 q10 hM hk r2 r1 hok hR hpre r3 hae hbe hxh g1 g2 g3 g4 g5 g6 hsl htl hXA hXB hva hel c3 c6
      have c3 := HH3.out.cell 0 _ rfl
      have c6 := HH6.out.cell 0 _ rfl
      gi_wp2_with (gi_at_builtin; refine wpListIn_append_e (E := intE .i32) (Z := fun _ => True) rfl (.tmp 33) (.tmp 34) 22 rfl (.int .i32 0) 4 Try.underlying22 info_ru rfl (by decide) rfl rfl HO.out HX.out (by rw [HTL.out, HSL.out]; omega) (by rw [HTL.out, HSL.out]; omega) HHI.out.2 ?_)
      intro v6 w6 ho6 b6 k6 d6
      rw [HCAT.out] at ho6
      have h5 := HH5.out.below b6 (by have := HHI.out; have := HB5.out; omega)
      have h6 := HH6.out.below b6 (by have := HHI.out; have := HB5.out; omega)
      have h3 := HH3.out.below b6 (by have := HHI.out; have := HB5.out; omega)
      have h4 := HH4.out.below b6 (by have := HHI.out; have := HB5.out; omega)
      obtain ⟨a7, k7, hv6⟩ := (ho6.held (Z := fun _ => True) (fun _ _ _ => trivial)).len
      rw [HCLN.out] at hv6
      rw [hv6] at ho6
      have hlo6 := ho6.lt
      rw [← hv6] at ho6 hlo6
      have e5 := h5.cell 0 _ rfl
      have f5 := h5.free 0
      have u6 : Upd (fun b9 => hi ≤ b9) w4 w6 := ⟨b6.os, b6.tape, b6.output, b6.size, fun b9 _ h => b6.block b9 (by omega)⟩
      obtain ⟨W7, hW7⟩ : ∃ W7, W7 = w6.setCell ⟨b5, 0, none⟩ v6 := ⟨_, rfl⟩
      have u7 : Upd (fun b9 => b9 = b5) w6 W7 := by rw [hW7]; exact (Upd.refl (fun b9 => b9 = b5) w6).setCell (p := ⟨b5, 0, none⟩) (.inl rfl) v6
      have H57 := Lib.hid (show Has W7 b5 [v6] 22 from by rw [hW7]; exact h5.set 0 v6)
      have H67 := Lib.hid (show Has W7 (b5 + 1) [.int .i64 (k : Int)] 3 from u7.keep.has h6 (by omega))
      have H37 := Lib.hid (show Has W7 W.heap.size [.int .i64 M] 3 from u7.keep.has h3 (by have := HB5.out; omega))
      have H47 := Lib.hid (show Has W7 (W.heap.size + 1) [.bool false] 4 from u7.keep.has h4 (by have := HB5.out; omega))
      have HO7 := Lib.hid (show OwnE (intE .i32) (fun _ => True) W7 hi 21 v6 XC from ownE_ints (u7.keep.own ho6.ints (fun b9 e h => by have := (hlo6 b9 e).1; have := HHI.out; have := HB5.out; omega)))
      have HL7 := Lib.hid (fun b9 e => (hlo6 b9 e).1)
      have HU7 := Lib.hid (show Upd (fun b9 => (b9 = b5 ∨ b9 = b5 + 1) ∨ hi ≤ b9) w4 W7 from (u6.mono (fun b9 _ e => .inr e)).trans (u7.mono (fun b9 _ e => .inl (.inl e))))
      have HBB := Lib.hid (HBW.out.upd HU7.out HBW.out.size (fun b9 e => by have := HHI.out; have := HB5.out; omega))
      have HV6 := Lib.hid hv6
      subst hv6
      clear ho6 b6 k6 d6 h3 h4 h5 h6 u6 u7 c3 c6 c5
      gi_upto_region 12 with (fail)
      rw [← hW7]
      clear hW7 e5 f5 hlo6
      have e6 := H67.out.cell 0 _ rfl
      have f6 := H67.out.free 0
      gi_wp2
      refine ⟨HU7.out.setCell (p := ⟨b5 + 1, 0, none⟩) (.inl (.inl (.inr rfl))) _, ?_⟩
      have u8 := (Upd.refl (fun b9 => b9 = b5 + 1) W7).setCell (p := ⟨b5 + 1, 0, none⟩) (.inl rfl) (.int .i64 ((k : Int) + 1))
      exact ⟨HHI.out.1, u8.keep.has H37.out (by have := HB5.out; omega), u8.keep.has H47.out (by have := HB5.out; omega), HBB.out.upd u8 HBB.out.size (fun b9 e => by have := HB5.out; omega), Nat.le_trans HHI.out.2 (Nat.le_trans HU7.out.size u8.size), _, k + 1, HR1.out, fun _ => ⟨HPRE.out.2, HPRE.out.1⟩, fun e => absurd e (by decide), H67.out.set 0 _, u8.keep.has H57.out (by omega), by rw [← HBE.out, ← HXC.out]; exact ownE_ints (u8.keep.own HO7.out.ints (fun b9 e h => by have := HL7.out b9 e; have := HHI.out; have := HB5.out; omega))⟩
set_option maxRecDepth 100000 in
theorem walk {H : Type} {enc : TypeId × Value → H} (W : World) (v : Value) {base : Nat} {d : DataW H} {p : List MemPlace} (hv : Value.okWide Try.prog W .any base 22 v) (h : DataW.Trod enc Try.prog W 0 (fun _ => true) true 22 v d p) (M : Int) (_ : (Lit.int .i64 M).wf = true) : Calls Try.prog 4 #[v, .int .i64 M] W (Yes W) := by
  obtain ⟨xs, hx, hr⟩ := runes_arg hv h
  by_cases hl : 1000 < xs.length
  · obtain ⟨ao, ca, rfl⟩ := hx.len
    clear hv h hx hr
    obtain ⟨W1, hW1⟩ : ∃ W1, W1 = (W.alloc (.cells #[.int .i64 M] 3)).alloc (.cells #[.bool false] 4) := ⟨_, rfl⟩
    have HB1 := Lib.hid (show Below W.heap.size W W1 from by rw [hW1]; exact ((Below.refl _ _).alloc (Nat.le_refl _) _).alloc (by simp) _)
    have H4 := Lib.hid (show Has W1 (W.heap.size + 1) [.bool false] 4 from by rw [hW1]; have := Has.new (W.alloc (.cells #[.int .i64 M] 3)) [.bool false] 4; rw [World.size_alloc] at this; exact this)
    have HW1 := Lib.hid hW1
    clear hW1
    have hd : decide ((1000 : Int) < xs.length) = true := by rw [decide_eq_true_eq]; omega
    go_enter Try.func4, Try.ntmps4
    go_upto_region 1 with (fail)
    rw [← HW1.out]
    go_wp2_with fail
    refine (works16_any _).mono ?_
    rintro e w1 ⟨rfl, b1⟩
    replace H4 := Lib.hid (H4.out.below b1 H4.out.lt)
    replace HB1 := Lib.hid (HB1.out.trans (b1.mono HB1.out.size))
    clear b1
    go_wp2_with fail
    refine (works16_any _).mono ?_
    rintro e w2 ⟨rfl, b2⟩
    replace H4 := Lib.hid (H4.out.below b2 H4.out.lt)
    replace HB1 := Lib.hid (HB1.out.trans (b2.mono HB1.out.size))
    clear b2
    have c4 := H4.out.cell 0 _ rfl
    have f4 := H4.out.free 0
    have HF := Lib.hid (HB1.out.setCell (p := ⟨W.heap.size + 1, 0, none⟩) (by simp) (.bool true))
    have k0 := (H4.out.set 0 (.bool true)).cell 0 _ rfl
    go_wp2
    exact bodyPost_ret (v := .bool true) (by simp [results, Try.results4, go_sem, k0]) rfl ⟨rfl, HF.out⟩
  · exact walkN W v xs M hx (by omega)

set_option maxRecDepth 100000 in
theorem lifted (os : Os) (started : os.Started) (H : Type) (enc : TypeId × Value → H) :
    ReturnsInHanded {} Try.checked os 4 .any (Rows.graphemeHandsSpec.pre6 enc Try.prog Try.f4 Rows.graphemeHandsRow.domain false) (Rows.graphemeHandsSpec.post enc Try.prog Try.f4 false true false false) := by
  refine law_frame_plain (C := Try.checked) (tb := 4) (by kernel_rfl) started (by kernel_rfl) Try.func4 (by kernel_rfl) (by kernel_rfl) Try.underlying4 rfl
    (by rw [Try.params4]; intro t ht; simp at ht; rcases ht with rfl | rfl <;> exact ⟨by kernel_rfl, of_decide_eq_true (by kernel_rfl)⟩)
    (by rw [Try.params4]; intro ds hd; match ds, hd with | [_, _], _ => rfl)
    (ChangeSpec.witness6 (enc := enc) (C := Try.checked) false ⟨#[], #[.slice none 0 0, .int .i64 0], []⟩ 8 (by kernel_rfl) (by kernel_rfl) (by kernel_rfl) (by kernel_rfl)) ?_
  intro W base args ds before hval hA
  rw [Try.params4] at hA hval
  obtain ⟨v0, vs0, d0, ds0, p0, q0, hargs, rfl, rfl, h0, r0⟩ := trodAll_cons hA
  obtain ⟨v1, vs1, d1, ds1, p1, q1, rfl, rfl, rfl, h1, r1⟩ := trodAll_cons r0
  obtain ⟨rfl, rfl, rfl⟩ := trodAll_nil r1
  obtain rfl : args = #[v0, v1] := by cases args; simp_all
  obtain ⟨x1, rfl, rfl, rfl, wx1⟩ := open_int Try.underlying3 (hval 1 3 v1 rfl rfl) h1
  exact walk W v0 (hval 0 22 v0 rfl rfl) h0 x1 wx1

theorem proved : Rows.GraphemeHandsSaid :=
  OpenClaim.holds_of_wide 4 Try.f4 rfl rfl rfl rfl rfl rfl rfl ⟨rfl, rfl, rfl, rfl, rfl⟩ rfl rfl rfl rfl rfl (by kernel_rfl) Try.func4 (by kernel_rfl)
    (of_decide_eq_true (by kernel_rfl)) (by unfold Func.isWrapper; first | (rw [if_pos (by decide +kernel)]; kernel_rfl) | (rw [if_neg (by decide +kernel)]; exact ⟨rfl, rfl⟩))
    (fun os started H enc _ => lifted os started H enc)
#print axioms proved

end Go.Proofs.Ytejiaejdpigiaaa.lawGraphemeHands
