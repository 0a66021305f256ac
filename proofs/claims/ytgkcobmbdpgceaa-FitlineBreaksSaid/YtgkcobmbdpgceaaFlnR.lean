/- The reference's Lines (22). -/
import Derived.Test.YtgkcobmbdpgceaaMg8
import Derived.Test.YtgkcobmbdpgceaaGraN
import Derived.Test.YtgkcobmbdpgceaaMg7
import Derived.Deep.Cut
namespace Go.Proofs.Ytgkcobmbdpgceaa
open Go.RowKit Go.ChangeShapes Go.WideShapes
attribute [local go_sem] Oper.semAt_some
def LnV (Zn : Zone) (va : Value) (A : List (List Int)) (L : List Int) (w : World) : Prop := ∃ g cap m Q ob, va = .slice (some ⟨g, 0, none⟩) m cap ∧ OwnE otE Zn w 0 22 (.slice (some ⟨g, 0, none⟩) m cap) (Q ++ [(L, ob)]) ∧ Zn g ∧ (∀ p ∈ Q, ∀ b, p.2 = some b → ob ≠ some b) ∧ Q.map Prod.fst = A ∧ m = Q.length + 1
theorem LnV.upd {Zn : Zone} {va : Value} {A : List (List Int)} {L : List Int} {w w' : World} {S : Zone} (h : LnV Zn va A L w) (hu : Upd S w w') (hs : ∀ b, Zn b → ¬ S b) : LnV Zn va A L w' := by
  obtain ⟨g, cap, m, Q, ob, h1, h2, h3, h4, h5, h6⟩ := h
  refine ⟨g, cap, m, Q, ob, h1, h2.upd hu (fun b hb => ?_), h3, h4, h5, h6⟩
  rcases hb with hb | hb
  · exact hs b hb
  · simp only [Value.ownBlock, Option.some.injEq] at hb
    subst hb
    exact hs _ h3
theorem LnV.below {Zn : Zone} {va : Value} {A : List (List Int)} {L : List Int} {w w' : World} (h : LnV Zn va A L w) (hb : Below w.heap.size w w') : LnV Zn va A L w' := h.upd (Upd.ofBelow (S := fun _ => False) hb) (fun _ _ h => h)
set_option maxRecDepth 100000 in
set_option maxHeartbeats 4000000 in
theorem rlines_any (Z : Zone) (v : Value) (xs : List Int) (Wr : Int) (w : World) (hx : HeldE (intE .i32) Z w v xs) (hn : xs.length ≤ 1000000) (hr : bounds32 xs) : Calls Try.prog 23 #[v, .int .i64 Wr] w (MadeRow w (linesC Wr xs)) := by
  have b0 := (Below.refl w.heap.size w).alloc (Nat.le_refl _) (.cells [.slice none 0 0].toArray 22)
  have HCL := Lib.hid (rclus_any Z v xs _ (hx.below b0) hn hr)
  have HA := Lib.hid (fun k h => cluA_at xs k h)
  have HML := Lib.hid (clA_len xs)
  have HMB := Lib.hid (clS_len xs)
  have HR := Lib.hid hr
  have HB0 := Lib.hid b0
  have HN0 := Lib.hid (Has.new w [.slice none 0 0] 22)
  obtain ⟨ao, ca, rfl⟩ := hx.len
  have hcl : max 1 (min Wr 1024) = clampW Wr := by unfold clampW; omega
  have HCLW := Lib.hid hcl
  have hwd := clampW_bd Wr
  clear hx hr b0 hcl
  go_enter Try.func23, Try.ntmps23
  go_wp2_with fail
  rw [HCLW.out]
  obtain ⟨Wd, hWd⟩ : ∃ Wd, Wd = clampW Wr := ⟨_, rfl⟩
  rw [← hWd] at hwd ⊢
  have HWE := Lib.hid hWd
  have HWD := Lib.hid hwd
  clear hWd hwd
  refine HCL.out.mono ?_
  rintro e w1 ⟨v1, rfl, ho1, b1⟩
  have hh1 := (ho1.held (fun b h _ => h)).zone (Y := fun b => w.heap.size + 1 ≤ b ∧ b < w1.heap.size) (fun b hb hz => ⟨by simpa using hz, hb⟩)
  obtain ⟨a1, c1, rfl⟩ := hh1.len
  have hcap := hh1.spots.2.1
  have HH := Lib.hid hh1
  have hlt0 : w.heap.size < w1.heap.size := by have := b1.size; simp at this; omega
  have HLT0 := Lib.hid hlt0
  have HR0 := Lib.hid (HN0.out.below b1 (by simp))
  have HB1 := Lib.hid (show Below w.heap.size w w1 from HB0.out.trans (b1.mono HB0.out.size))
  obtain ⟨mc, hm⟩ : ∃ mc, mc = (cluA xs).length := ⟨_, rfl⟩
  have HMC := Lib.hid hm
  rw [← hm] at HH hcap ⊢
  have hmn : mc ≤ 1000000 := by rw [hm, HML.out]; have := HMB.out; omega
  obtain ⟨Zn, hZn⟩ : ∃ Zn : Zone, Zn = fun b => b = w.heap.size ∨ w1.heap.size ≤ b := ⟨_, rfl⟩
  have HZN := Lib.hid (show ∀ b, Zn b ↔ (b = w.heap.size ∨ w1.heap.size ≤ b) from fun b => by rw [hZn])
  clear ho1 b1 hh1 hm hZn hlt0 HCL HB0 HN0
  go_wp2
  go_loopw [5, 6, 8] (fun ov uv i wr => ∃ k : Nat, k ≤ mc ∧ i = .int .i64 k ∧ uv = .int .i64 (tolds Wd ((cluA xs).take k)).2 ∧ LnV Zn ov (rowsT (tolds Wd ((cluA xs).take k)).1).1 (rowsT (tolds Wd ((cluA xs).take k)).1).2 wr ∧ (rowsT (tolds Wd ((cluA xs).take k)).1).2.length ≤ 1000000 * k ∧ Upd Zn w1 wr) (fun _ _ i _ => mc - (intOf i).toNat)
  case atStart => exact ⟨0, Nat.zero_le _, rfl, rfl, ⟨w.heap.size, 1, 1, [], none, rfl, ot_one HR0.out, (HZN.out _).2 (.inl rfl), (by simp), rfl, rfl⟩, Nat.zero_le _, Upd.refl _ _⟩
  case round =>
    obtain ⟨k, hk, rfl, huv, hln, hlb, hud⟩ := hrel
    obtain ⟨ov, hov⟩ : ∃ ov, ov = u5 := ⟨_, rfl⟩
    rw [← hov] at hln ⊢
    obtain ⟨uv, huv0⟩ : ∃ uv, uv = u6 := ⟨_, rfl⟩
    rw [← huv0] at huv ⊢
    subst huv
    obtain ⟨wk, hwk⟩ : ∃ wk, wk = wr := ⟨_, rfl⟩
    subst hwk
    have HUD := Lib.hid hud
    have HLN := Lib.hid hln
    have HLB := Lib.hid hlb
    clear hov huv0 hud hln hlb
    by_cases hlt : k < mc
    · have hh := (HH.out.upd HUD.out (fun b hz e => by rcases (HZN.out b).1 e with e | e <;> omega)).spots.2.2
      obtain ⟨ba, oa, e1, hb1, hz1, C1, q1, cv, hC1, ht⟩ := hh k (by rw [← HMC.out]; exact hlt)
      subst e1 hC1
      have d1 : wk.cell? ⟨ba, oa + k, none⟩ = some cv := by have := q1 0 (by decide); simpa [show rowE.size = 1 from rfl] using this
      have ha := HA.out k (by rw [← HML.out, ← HMC.out]; exact hlt)
      rw [show rowE.zero = ([] : List Int) from rfl] at ht
      have htk := ha.2.2.2.2
      have htr := ha.2.2.2.1 HR.out
      have htl := ha.2.1
      have htm := ha.2.2.1
      have hts := tolds_snoc Wd ((cluA xs).take k) ((cluA xs).getD k [])
      rw [← htk] at hts
      have hbd := tolds_bd Wd HWD.out.1 ((cluA xs).take k)
      have htlen : ((cluA xs).take k).length ≤ k := by rw [List.length_take]; omega
      have hrb := rowsT_bd (tolds Wd ((cluA xs).take k)).1
      obtain ⟨T, hT⟩ : ∃ T, T = (cluA xs).getD k [] := ⟨_, rfl⟩
      rw [← hT] at ht htr htl htm hts
      obtain ⟨NX, hNX⟩ : ∃ NX, NX = tolds Wd ((cluA xs).take (k + 1)) := ⟨_, rfl⟩
      rw [← hNX] at hts
      have HNX := Lib.hid hNX
      have HTS := Lib.hid hts
      have HLEN := Lib.hid (show (rowsT (tolds Wd ((cluA xs).take k)).1).1.length ≤ 1000000 by omega)
      obtain ⟨S, hS⟩ : ∃ S, S = tolds Wd ((cluA xs).take k) := ⟨_, rfl⟩
      rw [← hS] at HLN HLB HTS HLEN hbd ⊢
      obtain ⟨t, u⟩ := S
      simp only at HLN HLB HLEN hbd ⊢
      obtain ⟨A, hA⟩ : ∃ A, A = (rowsT t).1 := ⟨_, rfl⟩
      obtain ⟨L, hL⟩ : ∃ L, L = (rowsT t).2 := ⟨_, rfl⟩
      have HAL := Lib.hid (show rowsT t = (A, L) from by rw [hA, hL])
      rw [← hA, ← hL] at HLN
      rw [← hL] at HLB
      rw [← hA] at HLEN
      have HT := Lib.hid ht
      have HTL := Lib.hid (show 0 < T.length ∧ T.length ≤ 1000000 from ⟨htl, by omega⟩)
      have HTR := Lib.hid htr
      have HUB := Lib.hid hbd
      have HWS := Lib.hid HUD.out.size
      have HWI := Lib.hid (show ∀ w', Below wk.heap.size wk w' → Calls Try.prog 52 #[cv] w' (Gives w' (.int .i64 (wdC T))) from fun w' h => rwide_any _ cv T w' (HT.out.below h) (fun b hb => by have := h.size; have := HWS.out; omega) HTL.out.1 HTL.out.2 HTR.out)
      have hwb := wdC_bd T
      obtain ⟨wd, hwd⟩ : ∃ wd, wd = wdC T := ⟨_, rfl⟩
      rw [← hwd] at HWI hwb
      have HWW := Lib.hid hwd
      have hwk : IntKind.i64.wrap ((k : Int) + 1) = (k : Int) + 1 := by rw [IntKind.wrap_i64]; omega
      have hki : (k : Int) < (mc : Int) := by omega
      have hkc : k < c1 := by omega
      have HD1 := Lib.hid d1
      have HBA0 := Lib.hid hb1
      have HEND := Lib.hid (show ∀ (ov2 : Value) (w' : World), LnV Zn ov2 (rowsT NX.1).1 (rowsT NX.1).2 w' → (rowsT NX.1).2.length ≤ 1000000 * (k + 1) → Upd Zn w1 w' → ∃ k2 : Nat, k2 ≤ mc ∧ Value.int .i64 ((k : Int) + 1) = .int .i64 k2 ∧ Value.int .i64 NX.2 = .int .i64 (tolds Wd ((cluA xs).take k2)).2 ∧ LnV Zn ov2 (rowsT (tolds Wd ((cluA xs).take k2)).1).1 (rowsT (tolds Wd ((cluA xs).take k2)).1).2 w' ∧ (rowsT (tolds Wd ((cluA xs).take k2)).1).2.length ≤ 1000000 * k2 ∧ Upd Zn w1 w' from fun ov2 w' q1 q2 q3 => ⟨k + 1, hlt, by go_num, by rw [HNX.out], by rw [← HNX.out]; exact q1, by rw [← HNX.out]; exact q2, q3⟩)
      clear hh q1 ht htk htr htl htm hts hbd htlen hrb hT hNX hS hA hL hwd hb1
      go_wp2_with fail
      refine (HWI.out _ (Below.refl _ _)).mono ?_
      rintro e w2 ⟨rfl, b2⟩
      obtain ⟨g, cap, m, Q, ob, eo, ho, hg, hd, ha2, hm⟩ := HLN.out
      subst eo
      have ho := ho.below b2
      have HO := Lib.hid ho
      have HG := Lib.hid hg
      have HD := Lib.hid hd
      have HM := Lib.hid hm
      have HQM := Lib.hid (show Q.length ≤ 1000000 from by have := HLEN.out; rw [← ha2, List.length_map] at this; exact this)
      have HCAP := Lib.hid (show m ≤ cap from by obtain ⟨g9, c9, e, h9, _⟩ := own_some ho (by simp); cases e; rw [hm]; simpa using h9)
      have HQS := Lib.hid (ot_lt ho)
      have HGT := Lib.hid (show g < w2.heap.size from (ho.lt g rfl).2)
      have HNW := Lib.hid (show ∀ b, w2.heap.size ≤ b → Zn b from fun b hb => (HZN.out b).2 (.inr (by have := HWS.out; have := b2.size; omega)))
      have HX := Lib.hid (show HeldE (intE .i32) (fun b => ¬ Zn b) w2 cv T from (HT.out.below b2).zoned (fun b _ hz e => by rcases (HZN.out b).1 e with e | e <;> omega))
      have hd2 : w2.cell? ⟨ba, oa + k, none⟩ = some cv := (b2.cell (p := ⟨ba, oa + k, none⟩) HBA0.out).trans HD1.out
      have HCV := Lib.hid hd2
      have HBA := Lib.hid (show ba < w2.heap.size from World.block_lt_of_cell? _ _ hd2)
      have HU2 := Lib.hid (HUD.out.trans (Upd.ofBelow b2))
      have HA2 := Lib.hid ha2
      clear b2 d1 ho hg hd ha2 hm hd2
      rcases hwb with ⟨hs, hw0⟩ | ⟨hs, hw1, hw2⟩
      · have hN : NX = (t, u) := by rw [HTS.out]; unfold tst; rw [if_pos hs]
        have HF := Lib.hid (HEND.out (.slice (some ⟨g, 0, none⟩) m cap) w2 (by rw [hN]; simp only; rw [HAL.out]; exact ⟨g, cap, m, Q, ob, rfl, HO.out, HG.out, HD.out, HA2.out, HM.out⟩) (by rw [hN]; simp only; rw [HAL.out]; have := HLB.out; simp only; omega) HU2.out)
        rw [hN] at HF
        have hz0 : (min wd Wd == 0) = true := by have := HWD.out; simp only [beq_iff_eq]; omega
        clear hs hw0 hN
        go_wp2
        go_roundw
        case rel => exact HF.out
        case measure => simp [intOf] <;> omega
      · obtain ⟨n, hn9⟩ : ∃ n, n = min wd Wd := ⟨_, rfl⟩
        have hnb : 1 ≤ n ∧ n ≤ Wd := by have := HWD.out; omega
        have hz0 : (min wd Wd == 0) = false := by have := HWD.out; simp only [beq_eq_false_iff_ne, ne_eq]; omega
        have hN : NX = (t ++ [(T, decide (Wd - u < n))], (if Wd - u < n then 0 else u) + n) := by rw [HTS.out]; unfold tst; rw [if_neg (by rw [hs]; decide), ← HWW.out, ← hn9]
        have hadd : IntKind.i64.wrap (u + min wd Wd) = u + min wd Wd := by rw [IntKind.wrap_i64]; have := HWD.out; have := HUB.out; omega
        have HN9 := Lib.hid hn9
        have HNB := Lib.hid hnb
        have hsn := rowsT_snoc t (T, decide (Wd - u < n))
        rw [HAL.out] at hsn
        by_cases hgt : Wd - u < n
        · have hdg : decide (Wd < u + min wd Wd) = true := by simp only [decide_eq_true_eq]; omega
          rw [decide_eq_true hgt] at hN hsn
          rw [if_pos hgt] at hN
          rw [show rst (A, L) (T, true) = (A ++ [L], T) from rfl] at hsn
          have HE := Lib.hid (show ∀ (ov2 : Value) (w' : World), LnV Zn ov2 (A ++ [L]) T w' → Upd Zn w1 w' → _ from fun ov2 w' q1 q3 => HEND.out ov2 w' (by rw [hN]; simp only; rw [hsn]; exact q1) (by rw [hN]; simp only; rw [hsn]; have := HTL.out; simp only; omega) q3)
          rw [hN, Int.zero_add] at HE
          have h0n : IntKind.i64.wrap (0 + min wd Wd) = min wd Wd := by rw [IntKind.wrap_i64]; have := HWD.out; omega
          have hwn : IntKind.i64.wrap (min wd Wd) = min wd Wd := by rw [IntKind.wrap_i64]; have := HWD.out; omega
          have b0 := (Below.refl w2.heap.size w2).alloc (Nat.le_refl _) (.cells [.slice none 0 0].toArray 22)
          have HU := Lib.hid (show HeldE otE (fun b => Zn b ∧ (Value.slice (some ⟨g, 0, none⟩) m cap).ownBlock ≠ some b) (w2.alloc (.cells [.slice none 0 0].toArray 22)) (.slice (some ⟨w2.heap.size, 0, none⟩) 1 1) [([], none)] from heldE_one (Y := fun _ => False) [.slice none 0 0] ([], none) (ot_rep.2 ⟨_, rfl, OwnE.nil _ _ _ _ _, rfl, fun b e => by cases e⟩) (fun _ _ h => h.elim) ⟨HNW.out _ (Nat.le_refl _), fun e => by simp only [Value.ownBlock, Option.some.injEq] at e; have := HGT.out; omega⟩)
          have HO1 := Lib.hid (HO.out.below b0)
          have HX1 := Lib.hid (HX.out.below b0)
          have HB0 := Lib.hid b0
          have HLL3 := Lib.hid (show ([] : List Int).length + T.length ≤ 10000000000000 by have := HTL.out; simp only [List.length_nil]; omega)
          clear hs hw1 hw2 hN hsn hgt b0 hn9 hnb
          go_wp2_with (at_builtin; refine wpList_append_e (E := otE) (Z := Zn) rfl (.tmp 37) (.tmp 38) 36 rfl (.slice none 0 0) 24 Try.underlying36 info_ot rfl (by decide) rfl rfl HO1.out HU.out (by have := HQM.out; simp only [List.length_append, List.length_singleton]; omega) (by have := HQM.out; simp only [List.length_append, List.length_singleton]; omega) (Nat.zero_le _) ?_)
          intro v2 w3 ho2 b2 k2 f2
          obtain ⟨Q3, hQ3⟩ : ∃ Q3, Q3 = Q ++ [(L, ob)] := ⟨_, rfl⟩
          have ho2 : OwnE otE Zn w3 0 22 v2 (Q3 ++ [(([] : List Int), (none : Option Nat))]) := by rw [hQ3]; simpa using ho2
          obtain ⟨g3, cap3, rfl, hcap2, D2, hD2⟩ := own_some ho2 (by simp)
          have hm3 : (Q3 ++ [(([] : List Int), (none : Option Nat))]).length = Q3.length + 1 := by simp
          rw [hm3] at ho2 hcap2 ⊢
          obtain ⟨m3, hmm⟩ : ∃ m3, m3 = Q3.length + 1 := ⟨_, rfl⟩
          rw [← hmm] at ho2 hcap2 ⊢
          have HM3 := Lib.hid hmm
          have HCAP3 := Lib.hid hcap2
          have hql : Q3.length = Q.length + 1 := by rw [hQ3]; simp
          have HQM3 := Lib.hid (show Q3.length ≤ 1000001 by have := HQM.out; omega)
          have hzg : Zn g3 := by
            by_cases hl : g3 < (w2.alloc (.cells [.slice none 0 0].toArray 22)).heap.size
            · by_cases e : g = g3
              · rw [← e]; exact HG.out
              · exact absurd rfl (f2 g3 (by simpa using hl) (fun e9 => e (by simpa [Value.ownBlock] using e9)))
            · exact HNW.out g3 (by have := HB0.out.size; omega)
          have hu1 : Upd (fun b => b = g) (w2.alloc (.cells [.slice none 0 0].toArray 22)) w3 := ⟨b2.os, b2.tape, b2.output, k2.size, fun b hb hn => k2.block b hb (fun e => hn (by simpa [Value.ownBlock] using e.symm))⟩
          have HO3 := Lib.hid ho2
          have HG3 := Lib.hid hzg
          have HD3 := Lib.hid (show ∀ p ∈ Q3, ∀ b, p.2 = some b → (none : Option Nat) ≠ some b from fun p _ b _ e => by cases e)
          have HX3 := Lib.hid (HX1.out.upd hu1 (fun b hb e => hb (by rw [e]; exact HG.out)))
          have HQS3 := Lib.hid (ot_lt ho2)
          have hu3 := (Upd.ofBelow (S := Zn) HB0.out).trans (hu1.mono (fun b _ e => by rw [e]; exact HG.out))
          have HNW3 := Lib.hid (show ∀ b, w3.heap.size ≤ b → Zn b from fun b hb => HNW.out b (Nat.le_trans hu3.size hb))
          have hgz : ¬ Zn ba := fun e => by rcases (HZN.out ba).1 e with e | e <;> omega
          have hcv3 : w3.cell? ⟨ba, oa + k, none⟩ = some cv := (hu3.keep.cell HBA.out hgz).trans HCV.out
          have HCV3 := Lib.hid hcv3
          have HBA3 := Lib.hid (show ba < w3.heap.size from World.block_lt_of_cell? _ _ hcv3)
          have HU3 := Lib.hid (HU2.out.trans hu3)
          have HA3 := Lib.hid (show Q3.map Prod.fst = A ++ [L] from by rw [hQ3, List.map_append, HA2.out]; rfl)
          clear hu1 hu3 ho2 hzg b2 k2 f2 hD2 hmm hQ3 hql hm3 hcap2 hcv3 hgz

          obtain ⟨tv, htc, hto, htb, htz⟩ := ot_last HO3.out
          have HTV := Lib.hid hto
          have HTB := Lib.hid htb
          have HTZ := Lib.hid htz
          have HROW := Lib.hid (ot_row9 HO3.out)
          have hgl := (Array.getElem?_eq_some_iff.1 HROW.out.choose_spec.choose_spec).1
          have HTC := Lib.hid htc
          have HGL := Lib.hid hgl
          obtain ⟨q9, hq9⟩ : ∃ q9, q9 = Q3.length := ⟨_, rfl⟩
          have HQ9 := Lib.hid hq9
          have hsub : IntKind.i64.wrap ((m3 : Int) - 1) = (q9 : Int) := by rw [IntKind.wrap_i64]; have := HM3.out; have := HQM3.out; omega
          have hlt1 : q9 < m3 := by have := HM3.out; omega
          have hlt2 : (q9 : Int) < (m3 : Int) := by omega
          have hcap9 : m3 ≤ cap3 := HCAP3.out
          have hlt3 : q9 < cap3 := by omega
          rw [← hq9] at htc
          clear hto htb htz hq9 hgl htc
          go_wp2
          obtain ⟨Erg3, hErg3⟩ : ∃ EE : Nat → Value → World → Prop, EE = fun jj xx ww => match jj with
              | 0 => xx = .slice (some ⟨g3, 0, none⟩) m3 cap3
              | 1 => xx = .int .i64 (q9 : Int)
              | 2 => xx = .slice (some ⟨g3, 0, none⟩) m3 cap3
              | 3 => xx = .int .i64 (q9 : Int)
              | 4 => xx = .pointer (some ⟨g3, q9, none⟩)
              | 5 => xx = tv
              | 6 => xx = .slice (some ⟨ba, oa, none⟩) mc c1
              | 7 => xx = .int .i64 (k : Int)
              | 8 => xx = .pointer (some ⟨ba, oa + k, none⟩)
              | 9 => xx = cv
              | 10 => (fun x w' => OwnE (intE .i32) (fun _ => False) w' 0 21 x ([] ++ T) ∧ ∀ b, x.ownBlock = some b → (Zn b ∧ b ≠ g3) ∧ ((none : Option Nat) = some b ∨ w3.heap.size ≤ b)) xx ww
              | 11 => xx = .pointer (some ⟨g3, q9, none⟩)
              | 12 => xx = undef
              | _ => True := ⟨_, rfl⟩
          have erg30 : ∀ xx ww, Erg3 0 xx ww = (xx = .slice (some ⟨g3, 0, none⟩) m3 cap3) := fun xx ww => congrFun (congrFun (congrFun hErg3 0) xx) ww
          have erg31 : ∀ xx ww, Erg3 1 xx ww = (xx = .int .i64 (q9 : Int)) := fun xx ww => congrFun (congrFun (congrFun hErg3 1) xx) ww
          have erg32 : ∀ xx ww, Erg3 2 xx ww = (xx = .slice (some ⟨g3, 0, none⟩) m3 cap3) := fun xx ww => congrFun (congrFun (congrFun hErg3 2) xx) ww
          have erg33 : ∀ xx ww, Erg3 3 xx ww = (xx = .int .i64 (q9 : Int)) := fun xx ww => congrFun (congrFun (congrFun hErg3 3) xx) ww
          have erg34 : ∀ xx ww, Erg3 4 xx ww = (xx = .pointer (some ⟨g3, q9, none⟩)) := fun xx ww => congrFun (congrFun (congrFun hErg3 4) xx) ww
          have erg35 : ∀ xx ww, Erg3 5 xx ww = (xx = tv) := fun xx ww => congrFun (congrFun (congrFun hErg3 5) xx) ww
          have erg36 : ∀ xx ww, Erg3 6 xx ww = (xx = .slice (some ⟨ba, oa, none⟩) mc c1) := fun xx ww => congrFun (congrFun (congrFun hErg3 6) xx) ww
          have erg37 : ∀ xx ww, Erg3 7 xx ww = (xx = .int .i64 (k : Int)) := fun xx ww => congrFun (congrFun (congrFun hErg3 7) xx) ww
          have erg38 : ∀ xx ww, Erg3 8 xx ww = (xx = .pointer (some ⟨ba, oa + k, none⟩)) := fun xx ww => congrFun (congrFun (congrFun hErg3 8) xx) ww
          have erg39 : ∀ xx ww, Erg3 9 xx ww = (xx = cv) := fun xx ww => congrFun (congrFun (congrFun hErg3 9) xx) ww
          have erg310 : ∀ xx ww, Erg3 10 xx ww = ((fun x w' => OwnE (intE .i32) (fun _ => False) w' 0 21 x ([] ++ T) ∧ ∀ b, x.ownBlock = some b → (Zn b ∧ b ≠ g3) ∧ ((none : Option Nat) = some b ∨ w3.heap.size ≤ b)) xx ww) := fun xx ww => congrFun (congrFun (congrFun hErg3 10) xx) ww
          have erg311 : ∀ xx ww, Erg3 11 xx ww = (xx = .pointer (some ⟨g3, q9, none⟩)) := fun xx ww => congrFun (congrFun (congrFun hErg3 11) xx) ww
          have erg312 : ∀ xx ww, Erg3 12 xx ww = (xx = undef) := fun xx ww => congrFun (congrFun (congrFun hErg3 12) xx) ww
          obtain ⟨Crg3, hCrg3⟩ : ∃ CC : Array Bool → World → Prop, CC = fun L8 w' => (Mix.one L8 10 = 0 → Below w3.heap.size w3 w') ∧ (Mix.one L8 12 = 0 → Upd (fun b => (none : Option Nat) = some b) w3 w') ∧ (Mix.one L8 12 = 1 → LnV Zn (.slice (some ⟨g3, 0, none⟩) m3 cap3) (Q3.map Prod.fst) ([] ++ T) w' ∧ Upd Zn w3 w') := ⟨_, rfl⟩
          have krg3 : ∀ i L w, i ≠ 10 → i ≠ 12 →  Crg3 L w → Crg3 (L.setIfInBounds i true) w := by
            intro i L w q10 q12 h
            rw [hCrg3] at h ⊢
            simp only [Mix.one_ne q10, Mix.one_ne q12]; exact h
          obtain ⟨Xrg3, hXrg3⟩ : ∃ XX : Nat → World → World → Prop, XX = fun kk ww1 ww2 => if kk = 10 then (fun x y => Upd (fun b => (none : Option Nat) = some b) x y) ww1 ww2 else (fun x y => Upd (fun b => b = g3) x y) ww1 ww2 := ⟨_, rfl⟩
          have xrg3 : ∀ {k : Nat} (w : World), Xrg3 k w w := by
            intro k w
            rw [hXrg3]
            show if k = 10 then _ else _
            split
            · exact Upd.refl _ _
            · exact Upd.refl _ _
          have crg3 : Crg3 (Array.replicate 13 false) w3.drew := by rw [hCrg3]; exact ⟨fun _ => (Below.refl _ _).drew, fun _ => (Upd.refl _ _).drew, fun e => absurd e (by decide)⟩
          have brg3 : ∀ L w w1, Crg3 L w → Below w.heap.size w w1 → Crg3 L w1 := by
            intro L w w1 h hb
            rw [hCrg3] at h ⊢
            (obtain ⟨q1, q2, q3⟩ := h; exact ⟨fun e => (q1 e).trans (hb.mono (q1 e).size), fun e => (q2 e).trans (.ofBelow hb), fun e => ⟨(q3 e).1.below hb, (q3 e).2.trans (.ofBelow hb)⟩⟩)
          have xbrg3 : ∀ {k : Nat} (w w1 : World), Below w.heap.size w w1 → Xrg3 k w w1 := by
            intro k w w1 hb
            rw [hXrg3]
            show if k = 10 then _ else _
            split
            · exact Upd.ofBelow hb
            · exact Upd.ofBelow hb
          have Hrg3b := Lib.hid brg3
          have Hrg3xb : Go.RowKit.Hid (∀ {k : Nat} (w w1 : World), Below w.heap.size w w1 → Xrg3 k w w1) := @xbrg3
          clear brg3 xbrg3
          have Hrg3hE := Lib.hid hErg3
          clear hErg3
          have Hrg3k := Lib.hid krg3
          have Hrg3x : Go.RowKit.Hid (∀ {k : Nat} (w : World), Xrg3 k w w) := @xrg3
          have Hrg3c := Lib.hid crg3
          have Hrg3hC := Lib.hid hCrg3
          have Hrg3hX := Lib.hid hXrg3
          have Hrg3e0 := Lib.hid erg30
          have Hrg3e1 := Lib.hid erg31
          have Hrg3e2 := Lib.hid erg32
          have Hrg3e3 := Lib.hid erg33
          have Hrg3e4 := Lib.hid erg34
          have Hrg3e5 := Lib.hid erg35
          have Hrg3e6 := Lib.hid erg36
          have Hrg3e7 := Lib.hid erg37
          have Hrg3e8 := Lib.hid erg38
          have Hrg3e9 := Lib.hid erg39
          have Hrg3e10 := Lib.hid erg310
          have Hrg3e11 := Lib.hid erg311
          have Hrg3e12 := Lib.hid erg312
          clear krg3 xrg3 crg3 hCrg3 hXrg3 erg30 erg31 erg32 erg33 erg34 erg35 erg36 erg37 erg38 erg39 erg310 erg311 erg312
          go_wp2_with fail
          refine RegX.regionF Erg3 Crg3 Xrg3 ?_ (by kernel_rfl) (by kernel_rfl) (by kernel_rfl) Hrg3c.out (fun Frg3 hFrg3 => ?_)
          · intro ii jj x w w1 hji hr hx h
            rw [Hrg3hX.out] at hx
            by_cases hi : ii = 10
            · subst hi
              simp only [if_pos] at hx
              match jj with
              | 0 => rw [Hrg3e0.out] at h ⊢; exact h
              | 1 => rw [Hrg3e1.out] at h ⊢; exact h
              | 2 => rw [Hrg3e2.out] at h ⊢; exact h
              | 3 => rw [Hrg3e3.out] at h ⊢; exact h
              | 4 => rw [Hrg3e4.out] at h ⊢; exact h
              | 5 => rw [Hrg3e5.out] at h ⊢; exact h
              | 6 => rw [Hrg3e6.out] at h ⊢; exact h
              | 7 => rw [Hrg3e7.out] at h ⊢; exact h
              | 8 => rw [Hrg3e8.out] at h ⊢; exact h
              | 9 => rw [Hrg3e9.out] at h ⊢; exact h
              | 10 => exact absurd rfl hji
              | 11 => rw [Hrg3e11.out] at h ⊢; exact h
              | 12 => rw [Hrg3e12.out] at h ⊢; exact h
              | jj + 13 => rw [Hrg3hE.out]; trivial
            · simp only [if_neg hi] at hx
              match jj with
              | 0 => rw [Hrg3e0.out] at h ⊢; exact h
              | 1 => rw [Hrg3e1.out] at h ⊢; exact h
              | 2 => rw [Hrg3e2.out] at h ⊢; exact h
              | 3 => rw [Hrg3e3.out] at h ⊢; exact h
              | 4 => rw [Hrg3e4.out] at h ⊢; exact h
              | 5 => rw [Hrg3e5.out] at h ⊢; exact h
              | 6 => rw [Hrg3e6.out] at h ⊢; exact h
              | 7 => rw [Hrg3e7.out] at h ⊢; exact h
              | 8 => rw [Hrg3e8.out] at h ⊢; exact h
              | 9 => rw [Hrg3e9.out] at h ⊢; exact h
              | 10 => rw [Hrg3e10.out] at h ⊢; (exact ⟨OwnE.upd h.1 hx (fun b hb e => by rcases hb with hb | hb; exact hb.elim; exact (h.2 b hb).1.2 e), h.2⟩)
              | 11 => rw [Hrg3e11.out] at h ⊢; exact h
              | 12 => rw [Hrg3e12.out] at h ⊢; exact h
              | jj + 13 => rw [Hrg3hE.out]; trivial
          simp only [Reg.frame, Reg.dsts, List.map_cons, List.map_nil, Mix.put_lit, Reg.put_none, List.set_cons_succ, List.set_cons_zero, Nat.zero_add, Nat.reduceAdd] at hFrg3
          refine ⟨?_, ?_⟩
          · refine ⟨?_, ?_, ?_, ?_, ?_, ?_, ?_, ?_, ?_, ?_, ?_, ?_, ?_, trivial⟩
            · intro Lq wq xq hh
              simp only [hFrg3]
              refine .inl ⟨rfl, ?_⟩
              unfold Reg.upon
              have hk := Hrg3k.out 0 Lq wq (by decide) (by decide)  hh.cls
              have hx : Xrg3 0 wq wq := Hrg3x.out wq
              have he : Erg3 0 (.slice (some ⟨g3, 0, none⟩) m3 cap3) wq := by rw [Hrg3e0.out]
              have HK := Lib.hid (And.intro hk (And.intro he hx))
              clear hk hx he
              go_simp
              exact HK.out
            · intro Lq wq xq hh
              simp only [hFrg3]
              refine .inl ⟨rfl, ?_⟩
              unfold Reg.upon
              have hk := Hrg3k.out 1 Lq wq (by decide) (by decide)  hh.cls
              have hx : Xrg3 1 wq wq := Hrg3x.out wq
              have he : Erg3 1 (.int .i64 (q9 : Int)) wq := by rw [Hrg3e1.out]
              have HK := Lib.hid (And.intro hk (And.intro he hx))
              clear hk hx he
              go_simp
              exact HK.out
            · intro Lq wq xq hh
              simp only [hFrg3]
              refine .inl ⟨rfl, ?_⟩
              unfold Reg.upon
              have hk := Hrg3k.out 2 Lq wq (by decide) (by decide)  hh.cls
              have hx : Xrg3 2 wq wq := Hrg3x.out wq
              have he : Erg3 2 (.slice (some ⟨g3, 0, none⟩) m3 cap3) wq := by rw [Hrg3e2.out]
              have HK := Lib.hid (And.intro hk (And.intro he hx))
              clear hk hx he
              go_simp
              exact HK.out
            · intro Lq wq xq hh
              simp only [hFrg3]
              refine .inl ⟨rfl, ?_⟩
              unfold Reg.upon
              have hk := Hrg3k.out 3 Lq wq (by decide) (by decide)  hh.cls
              have hx : Xrg3 3 wq wq := Hrg3x.out wq
              have he : Erg3 3 (.int .i64 (q9 : Int)) wq := by rw [Hrg3e3.out]
              have HK := Lib.hid (And.intro hk (And.intro he hx))
              clear hk hx he
              go_simp
              exact HK.out
            · intro Lq wq xq hh
              have d2 : Erg3 2 (xq 2) wq := hh.val 2 (by kernel_rfl) (by kernel_rfl)
              rw [Hrg3e2.out] at d2
              have d3 : Erg3 3 (xq 3) wq := hh.val 3 (by kernel_rfl) (by kernel_rfl)
              rw [Hrg3e3.out] at d3
              simp only [hFrg3, d2, d3]
              clear d2 d3
              refine .inl ⟨rfl, ?_⟩
              unfold Reg.upon
              have hk := Hrg3k.out 4 Lq wq (by decide) (by decide)  hh.cls
              have hx : Xrg3 4 wq wq := Hrg3x.out wq
              have he : Erg3 4 (.pointer (some ⟨g3, q9, none⟩)) wq := by rw [Hrg3e4.out]
              have HK := Lib.hid (And.intro hk (And.intro he hx))
              clear hk hx he
              go_simp
              exact HK.out
            · intro Lq wq xq hh
              have d4 : Erg3 4 (xq 4) wq := hh.val 4 (by kernel_rfl) (by kernel_rfl)
              rw [Hrg3e4.out] at d4
              simp only [hFrg3, d4]
              clear d4
              refine .inl ⟨rfl, ?_⟩
              unfold Reg.upon
              have hc : Crg3 Lq wq := hh.cls
              rw [Hrg3hC.out] at hc
              have q0 := ((hc.1 (Mix.one_un (hh.notYet 10 (by kernel_rfl)))).cell (p := ⟨g3, q9, none⟩) HGL.out).trans (show w3.cell? ⟨g3, q9, none⟩ = some tv from by rw [HQ9.out]; exact HTC.out)
              clear hc
              have hk := Hrg3k.out 5 Lq wq (by decide) (by decide)  hh.cls
              have hx : Xrg3 5 wq wq := Hrg3x.out wq
              have he : Erg3 5 (tv) wq := by rw [Hrg3e5.out]
              have HK := Lib.hid (And.intro hk (And.intro he hx))
              clear hk hx he
              go_simp
              exact HK.out
            · intro Lq wq xq hh
              simp only [hFrg3]
              refine .inl ⟨rfl, ?_⟩
              unfold Reg.upon
              have hk := Hrg3k.out 6 Lq wq (by decide) (by decide)  hh.cls
              have hx : Xrg3 6 wq wq := Hrg3x.out wq
              have he : Erg3 6 (.slice (some ⟨ba, oa, none⟩) mc c1) wq := by rw [Hrg3e6.out]
              have HK := Lib.hid (And.intro hk (And.intro he hx))
              clear hk hx he
              go_simp
              exact HK.out
            · intro Lq wq xq hh
              simp only [hFrg3]
              refine .inl ⟨rfl, ?_⟩
              unfold Reg.upon
              have hk := Hrg3k.out 7 Lq wq (by decide) (by decide)  hh.cls
              have hx : Xrg3 7 wq wq := Hrg3x.out wq
              have he : Erg3 7 (.int .i64 (k : Int)) wq := by rw [Hrg3e7.out]
              have HK := Lib.hid (And.intro hk (And.intro he hx))
              clear hk hx he
              go_simp
              exact HK.out
            · intro Lq wq xq hh
              have d6 : Erg3 6 (xq 6) wq := hh.val 6 (by kernel_rfl) (by kernel_rfl)
              rw [Hrg3e6.out] at d6
              have d7 : Erg3 7 (xq 7) wq := hh.val 7 (by kernel_rfl) (by kernel_rfl)
              rw [Hrg3e7.out] at d7
              simp only [hFrg3, d6, d7]
              clear d6 d7
              refine .inl ⟨rfl, ?_⟩
              unfold Reg.upon
              have hk := Hrg3k.out 8 Lq wq (by decide) (by decide)  hh.cls
              have hx : Xrg3 8 wq wq := Hrg3x.out wq
              have he : Erg3 8 (.pointer (some ⟨ba, oa + k, none⟩)) wq := by rw [Hrg3e8.out]
              have HK := Lib.hid (And.intro hk (And.intro he hx))
              clear hk hx he
              go_simp
              exact HK.out
            · intro Lq wq xq hh
              have d8 : Erg3 8 (xq 8) wq := hh.val 8 (by kernel_rfl) (by kernel_rfl)
              rw [Hrg3e8.out] at d8
              simp only [hFrg3, d8]
              clear d8
              refine .inl ⟨rfl, ?_⟩
              unfold Reg.upon
              have hc : Crg3 Lq wq := hh.cls
              rw [Hrg3hC.out] at hc
              have q0 := ((hc.1 (Mix.one_un (hh.notYet 10 (by kernel_rfl)))).cell (p := ⟨ba, oa + k, none⟩) HBA3.out).trans HCV3.out
              clear hc
              have hk := Hrg3k.out 9 Lq wq (by decide) (by decide)  hh.cls
              have hx : Xrg3 9 wq wq := Hrg3x.out wq
              have he : Erg3 9 (cv) wq := by rw [Hrg3e9.out]
              have HK := Lib.hid (And.intro hk (And.intro he hx))
              clear hk hx he
              go_simp
              exact HK.out
            · intro Lq wq xq hh
              have d5 : Erg3 5 (xq 5) wq := hh.val 5 (by kernel_rfl) (by kernel_rfl)
              rw [Hrg3e5.out] at d5
              have d9 : Erg3 9 (xq 9) wq := hh.val 9 (by kernel_rfl) (by kernel_rfl)
              rw [Hrg3e9.out] at d9
              simp only [hFrg3, d5, d9]
              clear d5 d9
              refine .inl ⟨rfl, ?_⟩
              unfold Reg.upon
              have hc : Crg3 Lq wq := hh.cls
              rw [Hrg3hC.out] at hc
              have hc7 := hc.1 hh.un
              have hc9 := hc.2.1 (Mix.one_un (hh.notYet 12 (by kernel_rfl)))
              obtain ⟨v', w', hr, h1, h2, h3, h4⟩ := run_append_e (P := Try.prog) (E := intE .i32) (Z := fun _ => True) (w := wq) (B := 0) (ty := 21) 22 _ (.int .i32 0) 4 Try.underlying22 info_tx rfl (by decide) (HTV.out.below hc7) ((HX3.out.below hc7).zoned (Y := fun b => True ∧ tv.ownBlock ≠ some b) (fun b _ hz => ⟨trivial, fun e => hz (HTZ.out b (by rw [← HTB.out]; exact e)).1⟩)) (by have := HLL3.out; omega) (by have := HLL3.out; omega) (Nat.zero_le _)
              have hu : Upd (fun b => (none : Option Nat) = some b) wq w' := ⟨h2.os, h2.tape, h2.output, h3.size, fun b hb hn => h3.block b hb (by rw [HTB.out]; exact hn)⟩
              have hlt9 := h1.lt
              rw [exec_app rfl rfl rfl hr]
              refine ⟨?_, ?_, ?_⟩
              · rw [Hrg3hC.out]
                refine ⟨fun e => ?_, fun _ => hc9.trans hu, fun e => ?_⟩
                · rw [Mix.one_set (by rw [hh.size]; decide)] at e; exact absurd e (by decide)
                · rw [Mix.one_ne (by decide), Mix.one_un (hh.notYet 12 (by kernel_rfl))] at e; cases e
              · rw [Hrg3e10.out]
                refine ⟨ownE_ints h1.ints, fun b hb => ?_⟩
                by_cases hbl : b < wq.heap.size
                · have ho : tv.ownBlock = some b := by
                    refine Classical.byContradiction fun hne => ?_
                    exact h4 b hbl hne hb
                  exact ⟨HTZ.out b (by rw [← HTB.out]; exact ho), .inl (by rw [← HTB.out]; exact ho)⟩
                · have hsz := hc7.size
                  exact ⟨⟨HNW3.out b (by omega), fun e => by have := HGL.out; omega⟩, .inr (by omega)⟩
              · rw [Hrg3hX.out]; exact hu
            · intro Lq wq xq hh
              have d0 : Erg3 0 (xq 0) wq := hh.val 0 (by kernel_rfl) (by kernel_rfl)
              rw [Hrg3e0.out] at d0
              have d1 : Erg3 1 (xq 1) wq := hh.val 1 (by kernel_rfl) (by kernel_rfl)
              rw [Hrg3e1.out] at d1
              simp only [hFrg3, d0, d1]
              clear d0 d1
              refine .inl ⟨rfl, ?_⟩
              unfold Reg.upon
              have hk := Hrg3k.out 11 Lq wq (by decide) (by decide)  hh.cls
              have hx : Xrg3 11 wq wq := Hrg3x.out wq
              have he : Erg3 11 (.pointer (some ⟨g3, q9, none⟩)) wq := by rw [Hrg3e11.out]
              have HK := Lib.hid (And.intro hk (And.intro he hx))
              clear hk hx he
              go_simp
              exact HK.out
            · intro Lq wq xq hh
              have d10 : Erg3 10 (xq 10) wq := hh.val 10 (by kernel_rfl) (by kernel_rfl)
              rw [Hrg3e10.out] at d10
              have d11 : Erg3 11 (xq 11) wq := hh.val 11 (by kernel_rfl) (by kernel_rfl)
              rw [Hrg3e11.out] at d11
              simp only [hFrg3, d11]
              clear d11
              refine .inl ⟨rfl, ?_⟩
              unfold Reg.upon
              have hc : Crg3 Lq wq := hh.cls
              rw [Hrg3hC.out] at hc
              have hc9 := hc.2.1 hh.un
              obtain ⟨a5, c5, e5⟩ := (OwnE.held d10.1 (Z := fun _ => True) (fun b h _ => trivial)).len
              have hog : (none : Option Nat) ≠ some g3 := fun e => (HTZ.out _ e).2 rfl
              have hrow := (hc9.block g3 HGL.out hog).trans HROW.out.choose_spec.choose_spec
              have hcel : wq.cell? ⟨g3, q9, none⟩ = some tv := (hc9.keep.cell HGL.out hog).trans (show w3.cell? ⟨g3, q9, none⟩ = some tv from by rw [HQ9.out]; exact HTC.out)
              have hput := ot_put HO3.out HD3.out hog hc9.keep (ot_rep.2 ⟨xq 10, rfl, ownE_ints d10.1.ints, rfl, fun b hb => (d10.2 b hb).1⟩ : otE.rep (fun b => Zn b ∧ b ≠ g3) wq [xq 10] ([] ++ T, (xq 10).ownBlock))
              have hu1 := hc9.mono (T := Zn) (fun b _ e => (HTZ.out b e).1)
              have hu2 := hu1.setCell (p := ⟨g3, q9, none⟩) (.inl HG3.out) (xq 10)
              have hu3 := (Upd.refl (fun b => b = g3) wq).setCell (p := ⟨g3, q9, none⟩) (.inl rfl) (xq 10)
              have hnd : ∀ p ∈ Q3, ∀ b, p.2 = some b → (xq 10).ownBlock ≠ some b := fun p hp b e1 e2 => by rcases (d10.2 b e2).2 with e3 | e3; exact HD3.out p hp b e1 e3; have := HQS3.out p (List.mem_append.2 (.inl hp)) b e1; omega
              rw [← HQ9.out] at hput
              rw [e5] at hput hu2 hu3
              rw [exec_store_sl (b := g3) (off := q9) rfl rfl e5 tv hcel (frozen_of_row wq g3 q9 _ _ hrow) (by kernel_rfl)]
              refine ⟨?_, by rw [Hrg3e12.out], by rw [Hrg3hX.out]; exact hu3⟩
              rw [Hrg3hC.out]
              refine ⟨fun e => ?_, fun e => ?_, fun _ => ⟨⟨g3, cap3, m3, Q3, (xq 10).ownBlock, rfl, by rw [e5]; exact hput, HG3.out, hnd, rfl, HM3.out⟩, hu2⟩⟩
              · have := hh.isDone 10 (by kernel_rfl)
                rw [Mix.one_ne (by decide), this] at e; cases e
              · rw [Mix.one_set (by rw [hh.size]; decide)] at e; exact absurd e (by decide)
          intro xq wrg3 hcrg3 hvrg3
          rw [Hrg3hC.out] at hcrg3
          simp only [hFrg3]
          clear hvrg3 hFrg3 Hrg3k Hrg3x Hrg3hE Hrg3c Hrg3hC Hrg3hX Hrg3b Hrg3xb Hrg3e0 Hrg3e1 Hrg3e2 Hrg3e3 Hrg3e4 Hrg3e5 Hrg3e6 Hrg3e7 Hrg3e8 Hrg3e9 Hrg3e10 Hrg3e11 Hrg3e12
          obtain ⟨_, _, k3⟩ := hcrg3
          obtain ⟨k4, k5⟩ := k3 (by kernel_rfl)
          rw [HA3.out, List.nil_append] at k4
          have HF := Lib.hid (HE.out _ _ k4 (HU3.out.trans k5))
          rw [HN9.out] at HF
          clear k4 k5
          go_wp2
          go_roundw
          case rel => exact HF.out
          case measure => simp [intOf] <;> omega
        · have hdg : decide (Wd < u + min wd Wd) = false := by simp only [decide_eq_false_iff_not]; omega
          rw [decide_eq_false hgt] at hN hsn
          rw [if_neg hgt] at hN
          rw [show rst (A, L) (T, false) = (A, L ++ T) from rfl] at hsn
          have HLL := Lib.hid (show L.length + T.length ≤ 10000000000000 by have := HTL.out; have := HLB.out; omega)
          have HE := Lib.hid (show ∀ (ov2 : Value) (w' : World), LnV Zn ov2 A (L ++ T) w' → Upd Zn w1 w' → _ from fun ov2 w' q1 q3 => HEND.out ov2 w' (by rw [hN]; simp only; rw [hsn]; exact q1) (by rw [hN]; simp only; rw [hsn]; have := HTL.out; have := HLB.out; simp only [List.length_append]; omega) q3)
          rw [hN] at HE
          clear hs hw1 hw2 hN hsn hgt hn9 hnb

          obtain ⟨tv, htc, hto, htb, htz⟩ := ot_last HO.out
          have HTV := Lib.hid hto
          have HTB := Lib.hid htb
          have HTZ := Lib.hid htz
          have HROW := Lib.hid (ot_row9 HO.out)
          have hgl := (Array.getElem?_eq_some_iff.1 HROW.out.choose_spec.choose_spec).1
          have HTC := Lib.hid htc
          have HGL := Lib.hid hgl
          obtain ⟨q9, hq9⟩ : ∃ q9, q9 = Q.length := ⟨_, rfl⟩
          have HQ9 := Lib.hid hq9
          have hsub : IntKind.i64.wrap ((m : Int) - 1) = (q9 : Int) := by rw [IntKind.wrap_i64]; have := HM.out; have := HQM.out; omega
          have hlt1 : q9 < m := by have := HM.out; omega
          have hlt2 : (q9 : Int) < (m : Int) := by omega
          have hcap9 : m ≤ cap := HCAP.out
          have hlt3 : q9 < cap := by omega
          rw [← hq9] at htc
          clear hto htb htz hq9 hgl htc
          go_wp2
          obtain ⟨Erg, hErg⟩ : ∃ EE : Nat → Value → World → Prop, EE = fun jj xx ww => match jj with
              | 0 => xx = .slice (some ⟨g, 0, none⟩) m cap
              | 1 => xx = .int .i64 (q9 : Int)
              | 2 => xx = .slice (some ⟨g, 0, none⟩) m cap
              | 3 => xx = .int .i64 (q9 : Int)
              | 4 => xx = .pointer (some ⟨g, q9, none⟩)
              | 5 => xx = tv
              | 6 => xx = .slice (some ⟨ba, oa, none⟩) mc c1
              | 7 => xx = .int .i64 (k : Int)
              | 8 => xx = .pointer (some ⟨ba, oa + k, none⟩)
              | 9 => xx = cv
              | 10 => (fun x w' => OwnE (intE .i32) (fun _ => False) w' 0 21 x (L ++ T) ∧ ∀ b, x.ownBlock = some b → (Zn b ∧ b ≠ g) ∧ (ob = some b ∨ w2.heap.size ≤ b)) xx ww
              | 11 => xx = .pointer (some ⟨g, q9, none⟩)
              | 12 => xx = undef
              | _ => True := ⟨_, rfl⟩
          have erg0 : ∀ xx ww, Erg 0 xx ww = (xx = .slice (some ⟨g, 0, none⟩) m cap) := fun xx ww => congrFun (congrFun (congrFun hErg 0) xx) ww
          have erg1 : ∀ xx ww, Erg 1 xx ww = (xx = .int .i64 (q9 : Int)) := fun xx ww => congrFun (congrFun (congrFun hErg 1) xx) ww
          have erg2 : ∀ xx ww, Erg 2 xx ww = (xx = .slice (some ⟨g, 0, none⟩) m cap) := fun xx ww => congrFun (congrFun (congrFun hErg 2) xx) ww
          have erg3 : ∀ xx ww, Erg 3 xx ww = (xx = .int .i64 (q9 : Int)) := fun xx ww => congrFun (congrFun (congrFun hErg 3) xx) ww
          have erg4 : ∀ xx ww, Erg 4 xx ww = (xx = .pointer (some ⟨g, q9, none⟩)) := fun xx ww => congrFun (congrFun (congrFun hErg 4) xx) ww
          have erg5 : ∀ xx ww, Erg 5 xx ww = (xx = tv) := fun xx ww => congrFun (congrFun (congrFun hErg 5) xx) ww
          have erg6 : ∀ xx ww, Erg 6 xx ww = (xx = .slice (some ⟨ba, oa, none⟩) mc c1) := fun xx ww => congrFun (congrFun (congrFun hErg 6) xx) ww
          have erg7 : ∀ xx ww, Erg 7 xx ww = (xx = .int .i64 (k : Int)) := fun xx ww => congrFun (congrFun (congrFun hErg 7) xx) ww
          have erg8 : ∀ xx ww, Erg 8 xx ww = (xx = .pointer (some ⟨ba, oa + k, none⟩)) := fun xx ww => congrFun (congrFun (congrFun hErg 8) xx) ww
          have erg9 : ∀ xx ww, Erg 9 xx ww = (xx = cv) := fun xx ww => congrFun (congrFun (congrFun hErg 9) xx) ww
          have erg10 : ∀ xx ww, Erg 10 xx ww = ((fun x w' => OwnE (intE .i32) (fun _ => False) w' 0 21 x (L ++ T) ∧ ∀ b, x.ownBlock = some b → (Zn b ∧ b ≠ g) ∧ (ob = some b ∨ w2.heap.size ≤ b)) xx ww) := fun xx ww => congrFun (congrFun (congrFun hErg 10) xx) ww
          have erg11 : ∀ xx ww, Erg 11 xx ww = (xx = .pointer (some ⟨g, q9, none⟩)) := fun xx ww => congrFun (congrFun (congrFun hErg 11) xx) ww
          have erg12 : ∀ xx ww, Erg 12 xx ww = (xx = undef) := fun xx ww => congrFun (congrFun (congrFun hErg 12) xx) ww
          obtain ⟨Crg, hCrg⟩ : ∃ CC : Array Bool → World → Prop, CC = fun L8 w' => (Mix.one L8 10 = 0 → Below w2.heap.size w2 w') ∧ (Mix.one L8 12 = 0 → Upd (fun b => ob = some b) w2 w') ∧ (Mix.one L8 12 = 1 → LnV Zn (.slice (some ⟨g, 0, none⟩) m cap) (Q.map Prod.fst) (L ++ T) w' ∧ Upd Zn w2 w') := ⟨_, rfl⟩
          have krg : ∀ i L w, i ≠ 10 → i ≠ 12 →  Crg L w → Crg (L.setIfInBounds i true) w := by
            intro i L w q10 q12 h
            rw [hCrg] at h ⊢
            simp only [Mix.one_ne q10, Mix.one_ne q12]; exact h
          obtain ⟨Xrg, hXrg⟩ : ∃ XX : Nat → World → World → Prop, XX = fun kk ww1 ww2 => if kk = 10 then (fun x y => Upd (fun b => ob = some b) x y) ww1 ww2 else (fun x y => Upd (fun b => b = g) x y) ww1 ww2 := ⟨_, rfl⟩
          have xrg : ∀ {k : Nat} (w : World), Xrg k w w := by
            intro k w
            rw [hXrg]
            show if k = 10 then _ else _
            split
            · exact Upd.refl _ _
            · exact Upd.refl _ _
          have crg : Crg (Array.replicate 13 false) w2.drew := by rw [hCrg]; exact ⟨fun _ => (Below.refl _ _).drew, fun _ => (Upd.refl _ _).drew, fun e => absurd e (by decide)⟩
          have brg : ∀ L w w1, Crg L w → Below w.heap.size w w1 → Crg L w1 := by
            intro L w w1 h hb
            rw [hCrg] at h ⊢
            (obtain ⟨q1, q2, q3⟩ := h; exact ⟨fun e => (q1 e).trans (hb.mono (q1 e).size), fun e => (q2 e).trans (.ofBelow hb), fun e => ⟨(q3 e).1.below hb, (q3 e).2.trans (.ofBelow hb)⟩⟩)
          have xbrg : ∀ {k : Nat} (w w1 : World), Below w.heap.size w w1 → Xrg k w w1 := by
            intro k w w1 hb
            rw [hXrg]
            show if k = 10 then _ else _
            split
            · exact Upd.ofBelow hb
            · exact Upd.ofBelow hb
          have Hrgb := Lib.hid brg
          have Hrgxb : Go.RowKit.Hid (∀ {k : Nat} (w w1 : World), Below w.heap.size w w1 → Xrg k w w1) := @xbrg
          clear brg xbrg
          have HrghE := Lib.hid hErg
          clear hErg
          have Hrgk := Lib.hid krg
          have Hrgx : Go.RowKit.Hid (∀ {k : Nat} (w : World), Xrg k w w) := @xrg
          have Hrgc := Lib.hid crg
          have HrghC := Lib.hid hCrg
          have HrghX := Lib.hid hXrg
          have Hrge0 := Lib.hid erg0
          have Hrge1 := Lib.hid erg1
          have Hrge2 := Lib.hid erg2
          have Hrge3 := Lib.hid erg3
          have Hrge4 := Lib.hid erg4
          have Hrge5 := Lib.hid erg5
          have Hrge6 := Lib.hid erg6
          have Hrge7 := Lib.hid erg7
          have Hrge8 := Lib.hid erg8
          have Hrge9 := Lib.hid erg9
          have Hrge10 := Lib.hid erg10
          have Hrge11 := Lib.hid erg11
          have Hrge12 := Lib.hid erg12
          clear krg xrg crg hCrg hXrg erg0 erg1 erg2 erg3 erg4 erg5 erg6 erg7 erg8 erg9 erg10 erg11 erg12
          go_wp2_with fail
          refine RegX.regionF Erg Crg Xrg ?_ (by kernel_rfl) (by kernel_rfl) (by kernel_rfl) Hrgc.out (fun Frg hFrg => ?_)
          · intro ii jj x w w1 hji hr hx h
            rw [HrghX.out] at hx
            by_cases hi : ii = 10
            · subst hi
              simp only [if_pos] at hx
              match jj with
              | 0 => rw [Hrge0.out] at h ⊢; exact h
              | 1 => rw [Hrge1.out] at h ⊢; exact h
              | 2 => rw [Hrge2.out] at h ⊢; exact h
              | 3 => rw [Hrge3.out] at h ⊢; exact h
              | 4 => rw [Hrge4.out] at h ⊢; exact h
              | 5 => rw [Hrge5.out] at h ⊢; exact h
              | 6 => rw [Hrge6.out] at h ⊢; exact h
              | 7 => rw [Hrge7.out] at h ⊢; exact h
              | 8 => rw [Hrge8.out] at h ⊢; exact h
              | 9 => rw [Hrge9.out] at h ⊢; exact h
              | 10 => exact absurd rfl hji
              | 11 => rw [Hrge11.out] at h ⊢; exact h
              | 12 => rw [Hrge12.out] at h ⊢; exact h
              | jj + 13 => rw [HrghE.out]; trivial
            · simp only [if_neg hi] at hx
              match jj with
              | 0 => rw [Hrge0.out] at h ⊢; exact h
              | 1 => rw [Hrge1.out] at h ⊢; exact h
              | 2 => rw [Hrge2.out] at h ⊢; exact h
              | 3 => rw [Hrge3.out] at h ⊢; exact h
              | 4 => rw [Hrge4.out] at h ⊢; exact h
              | 5 => rw [Hrge5.out] at h ⊢; exact h
              | 6 => rw [Hrge6.out] at h ⊢; exact h
              | 7 => rw [Hrge7.out] at h ⊢; exact h
              | 8 => rw [Hrge8.out] at h ⊢; exact h
              | 9 => rw [Hrge9.out] at h ⊢; exact h
              | 10 => rw [Hrge10.out] at h ⊢; (exact ⟨OwnE.upd h.1 hx (fun b hb e => by rcases hb with hb | hb; exact hb.elim; exact (h.2 b hb).1.2 e), h.2⟩)
              | 11 => rw [Hrge11.out] at h ⊢; exact h
              | 12 => rw [Hrge12.out] at h ⊢; exact h
              | jj + 13 => rw [HrghE.out]; trivial
          simp only [Reg.frame, Reg.dsts, List.map_cons, List.map_nil, Mix.put_lit, Reg.put_none, List.set_cons_succ, List.set_cons_zero, Nat.zero_add, Nat.reduceAdd] at hFrg
          refine ⟨?_, ?_⟩
          · refine ⟨?_, ?_, ?_, ?_, ?_, ?_, ?_, ?_, ?_, ?_, ?_, ?_, ?_, trivial⟩
            · intro Lq wq xq hh
              simp only [hFrg]
              refine .inl ⟨rfl, ?_⟩
              unfold Reg.upon
              have hk := Hrgk.out 0 Lq wq (by decide) (by decide)  hh.cls
              have hx : Xrg 0 wq wq := Hrgx.out wq
              have he : Erg 0 (.slice (some ⟨g, 0, none⟩) m cap) wq := by rw [Hrge0.out]
              have HK := Lib.hid (And.intro hk (And.intro he hx))
              clear hk hx he
              go_simp
              exact HK.out
            · intro Lq wq xq hh
              simp only [hFrg]
              refine .inl ⟨rfl, ?_⟩
              unfold Reg.upon
              have hk := Hrgk.out 1 Lq wq (by decide) (by decide)  hh.cls
              have hx : Xrg 1 wq wq := Hrgx.out wq
              have he : Erg 1 (.int .i64 (q9 : Int)) wq := by rw [Hrge1.out]
              have HK := Lib.hid (And.intro hk (And.intro he hx))
              clear hk hx he
              go_simp
              exact HK.out
            · intro Lq wq xq hh
              simp only [hFrg]
              refine .inl ⟨rfl, ?_⟩
              unfold Reg.upon
              have hk := Hrgk.out 2 Lq wq (by decide) (by decide)  hh.cls
              have hx : Xrg 2 wq wq := Hrgx.out wq
              have he : Erg 2 (.slice (some ⟨g, 0, none⟩) m cap) wq := by rw [Hrge2.out]
              have HK := Lib.hid (And.intro hk (And.intro he hx))
              clear hk hx he
              go_simp
              exact HK.out
            · intro Lq wq xq hh
              simp only [hFrg]
              refine .inl ⟨rfl, ?_⟩
              unfold Reg.upon
              have hk := Hrgk.out 3 Lq wq (by decide) (by decide)  hh.cls
              have hx : Xrg 3 wq wq := Hrgx.out wq
              have he : Erg 3 (.int .i64 (q9 : Int)) wq := by rw [Hrge3.out]
              have HK := Lib.hid (And.intro hk (And.intro he hx))
              clear hk hx he
              go_simp
              exact HK.out
            · intro Lq wq xq hh
              have d2 : Erg 2 (xq 2) wq := hh.val 2 (by kernel_rfl) (by kernel_rfl)
              rw [Hrge2.out] at d2
              have d3 : Erg 3 (xq 3) wq := hh.val 3 (by kernel_rfl) (by kernel_rfl)
              rw [Hrge3.out] at d3
              simp only [hFrg, d2, d3]
              clear d2 d3
              refine .inl ⟨rfl, ?_⟩
              unfold Reg.upon
              have hk := Hrgk.out 4 Lq wq (by decide) (by decide)  hh.cls
              have hx : Xrg 4 wq wq := Hrgx.out wq
              have he : Erg 4 (.pointer (some ⟨g, q9, none⟩)) wq := by rw [Hrge4.out]
              have HK := Lib.hid (And.intro hk (And.intro he hx))
              clear hk hx he
              go_simp
              exact HK.out
            · intro Lq wq xq hh
              have d4 : Erg 4 (xq 4) wq := hh.val 4 (by kernel_rfl) (by kernel_rfl)
              rw [Hrge4.out] at d4
              simp only [hFrg, d4]
              clear d4
              refine .inl ⟨rfl, ?_⟩
              unfold Reg.upon
              have hc : Crg Lq wq := hh.cls
              rw [HrghC.out] at hc
              have q0 := ((hc.1 (Mix.one_un (hh.notYet 10 (by kernel_rfl)))).cell (p := ⟨g, q9, none⟩) HGL.out).trans (show w2.cell? ⟨g, q9, none⟩ = some tv from by rw [HQ9.out]; exact HTC.out)
              clear hc
              have hk := Hrgk.out 5 Lq wq (by decide) (by decide)  hh.cls
              have hx : Xrg 5 wq wq := Hrgx.out wq
              have he : Erg 5 (tv) wq := by rw [Hrge5.out]
              have HK := Lib.hid (And.intro hk (And.intro he hx))
              clear hk hx he
              go_simp
              exact HK.out
            · intro Lq wq xq hh
              simp only [hFrg]
              refine .inl ⟨rfl, ?_⟩
              unfold Reg.upon
              have hk := Hrgk.out 6 Lq wq (by decide) (by decide)  hh.cls
              have hx : Xrg 6 wq wq := Hrgx.out wq
              have he : Erg 6 (.slice (some ⟨ba, oa, none⟩) mc c1) wq := by rw [Hrge6.out]
              have HK := Lib.hid (And.intro hk (And.intro he hx))
              clear hk hx he
              go_simp
              exact HK.out
            · intro Lq wq xq hh
              simp only [hFrg]
              refine .inl ⟨rfl, ?_⟩
              unfold Reg.upon
              have hk := Hrgk.out 7 Lq wq (by decide) (by decide)  hh.cls
              have hx : Xrg 7 wq wq := Hrgx.out wq
              have he : Erg 7 (.int .i64 (k : Int)) wq := by rw [Hrge7.out]
              have HK := Lib.hid (And.intro hk (And.intro he hx))
              clear hk hx he
              go_simp
              exact HK.out
            · intro Lq wq xq hh
              have d6 : Erg 6 (xq 6) wq := hh.val 6 (by kernel_rfl) (by kernel_rfl)
              rw [Hrge6.out] at d6
              have d7 : Erg 7 (xq 7) wq := hh.val 7 (by kernel_rfl) (by kernel_rfl)
              rw [Hrge7.out] at d7
              simp only [hFrg, d6, d7]
              clear d6 d7
              refine .inl ⟨rfl, ?_⟩
              unfold Reg.upon
              have hk := Hrgk.out 8 Lq wq (by decide) (by decide)  hh.cls
              have hx : Xrg 8 wq wq := Hrgx.out wq
              have he : Erg 8 (.pointer (some ⟨ba, oa + k, none⟩)) wq := by rw [Hrge8.out]
              have HK := Lib.hid (And.intro hk (And.intro he hx))
              clear hk hx he
              go_simp
              exact HK.out
            · intro Lq wq xq hh
              have d8 : Erg 8 (xq 8) wq := hh.val 8 (by kernel_rfl) (by kernel_rfl)
              rw [Hrge8.out] at d8
              simp only [hFrg, d8]
              clear d8
              refine .inl ⟨rfl, ?_⟩
              unfold Reg.upon
              have hc : Crg Lq wq := hh.cls
              rw [HrghC.out] at hc
              have q0 := ((hc.1 (Mix.one_un (hh.notYet 10 (by kernel_rfl)))).cell (p := ⟨ba, oa + k, none⟩) HBA.out).trans HCV.out
              clear hc
              have hk := Hrgk.out 9 Lq wq (by decide) (by decide)  hh.cls
              have hx : Xrg 9 wq wq := Hrgx.out wq
              have he : Erg 9 (cv) wq := by rw [Hrge9.out]
              have HK := Lib.hid (And.intro hk (And.intro he hx))
              clear hk hx he
              go_simp
              exact HK.out
            · intro Lq wq xq hh
              have d5 : Erg 5 (xq 5) wq := hh.val 5 (by kernel_rfl) (by kernel_rfl)
              rw [Hrge5.out] at d5
              have d9 : Erg 9 (xq 9) wq := hh.val 9 (by kernel_rfl) (by kernel_rfl)
              rw [Hrge9.out] at d9
              simp only [hFrg, d5, d9]
              clear d5 d9
              refine .inl ⟨rfl, ?_⟩
              unfold Reg.upon
              have hc : Crg Lq wq := hh.cls
              rw [HrghC.out] at hc
              have hc7 := hc.1 hh.un
              have hc9 := hc.2.1 (Mix.one_un (hh.notYet 12 (by kernel_rfl)))
              obtain ⟨v', w', hr, h1, h2, h3, h4⟩ := run_append_e (P := Try.prog) (E := intE .i32) (Z := fun _ => True) (w := wq) (B := 0) (ty := 21) 22 _ (.int .i32 0) 4 Try.underlying22 info_tx rfl (by decide) (HTV.out.below hc7) ((HX.out.below hc7).zoned (Y := fun b => True ∧ tv.ownBlock ≠ some b) (fun b _ hz => ⟨trivial, fun e => hz (HTZ.out b (by rw [← HTB.out]; exact e)).1⟩)) (by have := HLL.out; omega) (by have := HLL.out; omega) (Nat.zero_le _)
              have hu : Upd (fun b => ob = some b) wq w' := ⟨h2.os, h2.tape, h2.output, h3.size, fun b hb hn => h3.block b hb (by rw [HTB.out]; exact hn)⟩
              have hlt9 := h1.lt
              rw [exec_app rfl rfl rfl hr]
              refine ⟨?_, ?_, ?_⟩
              · rw [HrghC.out]
                refine ⟨fun e => ?_, fun _ => hc9.trans hu, fun e => ?_⟩
                · rw [Mix.one_set (by rw [hh.size]; decide)] at e; exact absurd e (by decide)
                · rw [Mix.one_ne (by decide), Mix.one_un (hh.notYet 12 (by kernel_rfl))] at e; cases e
              · rw [Hrge10.out]
                refine ⟨ownE_ints h1.ints, fun b hb => ?_⟩
                by_cases hbl : b < wq.heap.size
                · have ho : tv.ownBlock = some b := by
                    refine Classical.byContradiction fun hne => ?_
                    exact h4 b hbl hne hb
                  exact ⟨HTZ.out b (by rw [← HTB.out]; exact ho), .inl (by rw [← HTB.out]; exact ho)⟩
                · have hsz := hc7.size
                  exact ⟨⟨HNW.out b (by omega), fun e => by have := HGL.out; omega⟩, .inr (by omega)⟩
              · rw [HrghX.out]; exact hu
            · intro Lq wq xq hh
              have d0 : Erg 0 (xq 0) wq := hh.val 0 (by kernel_rfl) (by kernel_rfl)
              rw [Hrge0.out] at d0
              have d1 : Erg 1 (xq 1) wq := hh.val 1 (by kernel_rfl) (by kernel_rfl)
              rw [Hrge1.out] at d1
              simp only [hFrg, d0, d1]
              clear d0 d1
              refine .inl ⟨rfl, ?_⟩
              unfold Reg.upon
              have hk := Hrgk.out 11 Lq wq (by decide) (by decide)  hh.cls
              have hx : Xrg 11 wq wq := Hrgx.out wq
              have he : Erg 11 (.pointer (some ⟨g, q9, none⟩)) wq := by rw [Hrge11.out]
              have HK := Lib.hid (And.intro hk (And.intro he hx))
              clear hk hx he
              go_simp
              exact HK.out
            · intro Lq wq xq hh
              have d10 : Erg 10 (xq 10) wq := hh.val 10 (by kernel_rfl) (by kernel_rfl)
              rw [Hrge10.out] at d10
              have d11 : Erg 11 (xq 11) wq := hh.val 11 (by kernel_rfl) (by kernel_rfl)
              rw [Hrge11.out] at d11
              simp only [hFrg, d11]
              clear d11
              refine .inl ⟨rfl, ?_⟩
              unfold Reg.upon
              have hc : Crg Lq wq := hh.cls
              rw [HrghC.out] at hc
              have hc9 := hc.2.1 hh.un
              obtain ⟨a5, c5, e5⟩ := (OwnE.held d10.1 (Z := fun _ => True) (fun b h _ => trivial)).len
              have hog : ob ≠ some g := fun e => (HTZ.out _ e).2 rfl
              have hrow := (hc9.block g HGL.out hog).trans HROW.out.choose_spec.choose_spec
              have hcel : wq.cell? ⟨g, q9, none⟩ = some tv := (hc9.keep.cell HGL.out hog).trans (show w2.cell? ⟨g, q9, none⟩ = some tv from by rw [HQ9.out]; exact HTC.out)
              have hput := ot_put HO.out HD.out hog hc9.keep (ot_rep.2 ⟨xq 10, rfl, ownE_ints d10.1.ints, rfl, fun b hb => (d10.2 b hb).1⟩ : otE.rep (fun b => Zn b ∧ b ≠ g) wq [xq 10] (L ++ T, (xq 10).ownBlock))
              have hu1 := hc9.mono (T := Zn) (fun b _ e => (HTZ.out b e).1)
              have hu2 := hu1.setCell (p := ⟨g, q9, none⟩) (.inl HG.out) (xq 10)
              have hu3 := (Upd.refl (fun b => b = g) wq).setCell (p := ⟨g, q9, none⟩) (.inl rfl) (xq 10)
              have hnd : ∀ p ∈ Q, ∀ b, p.2 = some b → (xq 10).ownBlock ≠ some b := fun p hp b e1 e2 => by rcases (d10.2 b e2).2 with e3 | e3; exact HD.out p hp b e1 e3; have := HQS.out p (List.mem_append.2 (.inl hp)) b e1; omega
              rw [← HQ9.out] at hput
              rw [e5] at hput hu2 hu3
              rw [exec_store_sl (b := g) (off := q9) rfl rfl e5 tv hcel (frozen_of_row wq g q9 _ _ hrow) (by kernel_rfl)]
              refine ⟨?_, by rw [Hrge12.out], by rw [HrghX.out]; exact hu3⟩
              rw [HrghC.out]
              refine ⟨fun e => ?_, fun e => ?_, fun _ => ⟨⟨g, cap, m, Q, (xq 10).ownBlock, rfl, by rw [e5]; exact hput, HG.out, hnd, rfl, HM.out⟩, hu2⟩⟩
              · have := hh.isDone 10 (by kernel_rfl)
                rw [Mix.one_ne (by decide), this] at e; cases e
              · rw [Mix.one_set (by rw [hh.size]; decide)] at e; exact absurd e (by decide)
          intro xq wrg hcrg hvrg
          rw [HrghC.out] at hcrg
          simp only [hFrg]
          clear hvrg hFrg Hrgk Hrgx HrghE Hrgc HrghC HrghX Hrgb Hrgxb Hrge0 Hrge1 Hrge2 Hrge3 Hrge4 Hrge5 Hrge6 Hrge7 Hrge8 Hrge9 Hrge10 Hrge11 Hrge12
          obtain ⟨_, _, k3⟩ := hcrg
          obtain ⟨k4, k5⟩ := k3 (by kernel_rfl)
          rw [HA2.out] at k4
          have HF := Lib.hid (HE.out _ _ k4 (HU2.out.trans k5))
          rw [HN9.out] at HF
          clear k4 k5
          go_wp2
          go_roundw
          case rel => exact HF.out
          case measure => simp [intOf] <;> omega
    · obtain rfl : k = mc := by omega
      have hln := HLN.out
      rw [show (cluA xs).take k = cluA xs from by rw [HMC.out, List.take_length]] at hln
      obtain ⟨g, cap, m, Q, ob, rfl, ho, hg, hd, ha2, hm⟩ := hln
      have hr := ot_rows ho
      rw [show (Q ++ [((rowsT (tolds Wd (cluA xs)).1).2, ob)]).map Prod.fst = linesC Wr xs from by rw [HWE.out]; unfold linesC linesOf; rw [← HWE.out, List.map_append, ha2]; rfl] at hr
      have hr := own_rebase (B := w.heap.size) hr (fun k e => by simp only [Value.ownBlock, Option.some.injEq] at e; have := HLT0.out; rcases (HZN.out g).1 hg with h | h <;> omega)
      have hr := hr.keep (Y := fun b => w.heap.size ≤ b) (.refl _ _) (fun b _ hz => by have := HLT0.out; rcases (HZN.out b).1 hz with h | h <;> omega)
      have HRR := Lib.hid hr
      have HB := Lib.hid (HB1.out.upd HUD.out HB1.out.size (fun b e => by have := HLT0.out; rcases (HZN.out b).1 e with h | h <;> omega))
      clear ho hg hd ha2 hm hr
      go_wp2
      go_ret
      exact ⟨_, (ret_eq (by first | rfl | (simp <;> omega))), HRR.out, HB.out⟩
end Go.Proofs.Ytgkcobmbdpgceaa
