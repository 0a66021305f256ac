/- fitline: what Lines and Count tell walk (22). -/
import Derived.Test.YtgkcobmbdpgceaaMg7
import Derived.Test.YtgkcobmbdpgceaaMg6
import Derived.Test.YtgkcobmbdpgceaaMg1
import Derived.Deep.Cut
namespace Go.Proofs.Ytgkcobmbdpgceaa
open Go.RowKit Go.ChangeShapes Go.WideShapes
attribute [local go_sem] Oper.semAt_some
theorem info_ot : (Try.prog.info? 22).map (fun i => (i.zero, i.size, i.bytes)) = some (some (.slice none 0 0), otE.size, 24) := by kernel_rfl
theorem info_tx : (Try.prog.info? 21).map (fun i => (i.zero, i.size, i.bytes)) = some (some (.int .i32 0), (intE .i32).size, 4) := by kernel_rfl
/-- The box holds the lines: all but the last one, and the last one. -/
def LnAt (Zn : Zone) (bx : Nat) (A : List (List Int)) (L : List Int) (w : World) : Prop := ∃ g cap m Q ob, Has w bx [.slice (some ⟨g, 0, none⟩) m cap] 36 ∧ OwnE otE Zn w 0 22 (.slice (some ⟨g, 0, none⟩) m cap) (Q ++ [(L, ob)]) ∧ Zn g ∧ (∀ p ∈ Q, ∀ b, p.2 = some b → ob ≠ some b) ∧ Q.map Prod.fst = A ∧ m = Q.length + 1
theorem own_some {α : Type} {E : Elem α} {Z : Zone} {w : World} {B : Nat} {ty : TypeId} {v : Value} {L : List α} (h : OwnE E Z w B ty v L) (h0 : 0 < L.length) : ∃ g cap, v = .slice (some ⟨g, 0, none⟩) L.length cap ∧ L.length ≤ cap ∧ ∃ D, w.heap[g]? = some (.cells D ty (0, 0)) := by
  obtain ⟨CS, h1, _⟩ := h
  rcases h1.2 with ⟨_, h2⟩ | ⟨g, cap, cur, rfl, hB, hg, hn, rest⟩
  · omega
  · exact ⟨g, cap, rfl, hn, cur, hg⟩
theorem own_upd0 {α : Type} {E : Elem α} {Z : Zone} {w w' : World} {ty : TypeId} {v : Value} {L : List α} (h : OwnE E Z w 0 ty v L) {S : Zone} (hu : Upd S w w') (hs : ∀ b, Z b ∨ v.ownBlock = some b → ¬ S b) : OwnE E Z w' 0 ty v L := h.upd hu hs
theorem LnAt.upd {Zn : Zone} {bx : Nat} {A : List (List Int)} {L : List Int} {w w' : World} {S : Zone} (h : LnAt Zn bx A L w) (hu : Upd S w w') (hs : ∀ b, Zn b ∨ b = bx → ¬ S b) : LnAt Zn bx A L w' := by
  obtain ⟨g, cap, m, Q, ob, h1, h2, h3, h4, h5, h6⟩ := h
  refine ⟨g, cap, m, Q, ob, hu.keep.has h1 (hs bx (.inr rfl)), h2.upd hu (fun b hb => ?_), h3, h4, h5, h6⟩
  rcases hb with hb | hb
  · exact hs b (.inl hb)
  · simp only [Value.ownBlock, Option.some.injEq] at hb
    subst hb
    exact hs _ (.inl h3)
theorem LnAt.below {Zn : Zone} {bx : Nat} {A : List (List Int)} {L : List Int} {w w' : World} (h : LnAt Zn bx A L w) (hb : Below w.heap.size w w') : LnAt Zn bx A L w' := h.upd (Upd.ofBelow (S := fun _ => False) hb) (fun _ _ h => h)
theorem ot_row9 {Zn : Zone} {w : World} {ty g m cap : Nat} {Q : List (List Int × Option Nat)} (h : OwnE otE Zn w 0 ty (.slice (some ⟨g, 0, none⟩) m cap) Q) : ∃ (D : Array Value) (t : TypeId), w.heap[g]? = some (.cells D t (0, 0)) := by
  obtain ⟨CS, h1, _⟩ := h
  rcases h1.2 with ⟨h2, _⟩ | ⟨g', cap', cur, h2, hB, hg, _⟩
  · cases h2
  · cases h2
    exact ⟨cur, _, hg⟩
/-- The last text's cell. -/
theorem ot_last {Zn : Zone} {w : World} {ty g m cap : Nat} {Q : List (List Int × Option Nat)} {L : List Int} {ob : Option Nat} (h : OwnE otE Zn w 0 ty (.slice (some ⟨g, 0, none⟩) m cap) (Q ++ [(L, ob)])) : ∃ tv, w.cell? ⟨g, Q.length, none⟩ = some tv ∧ OwnE (intE .i32) (fun _ => True) w 0 21 tv L ∧ tv.ownBlock = ob ∧ ∀ b, ob = some b → Zn b ∧ b ≠ g := by
  obtain ⟨C, h1, h2⟩ := h.each.at (i := Q.length) (by simp)
  rw [show (Q ++ [(L, ob)]).getD Q.length otE.zero = (L, ob) from by simp [List.getD]] at h2
  obtain ⟨tv, rfl, q1, q2, q3⟩ := ot_rep.1 h2
  have h3 := (h1 0 (by decide)).1
  refine ⟨tv, ?_, q1, q2, q3⟩
  rw [show Q.length * otE.size + 0 = Q.length from by show Q.length * 1 + 0 = _; omega] at h3
  exact h3
theorem ot_lt {Zn : Zone} {w : World} {ty B : Nat} {v : Value} {Q : List (List Int × Option Nat)} (h : OwnE otE Zn w B ty v Q) : ∀ p ∈ Q, ∀ b, p.2 = some b → b < w.heap.size := by
  intro p hp b e
  obtain ⟨i, hi, rfl⟩ := List.getElem_of_mem hp
  obtain ⟨CS, h1, h2, h3⟩ := h
  have h4 := h3 i hi
  rw [show Q.getD i otE.zero = Q[i] from by simp [List.getD, List.getElem?_eq_getElem hi]] at h4
  obtain ⟨v, _, q1, q2, _⟩ := ot_rep.1 h4
  exact (q1.lt b (by rw [q2]; exact e)).2
set_option maxRecDepth 100000 in
set_option maxHeartbeats 3000000 in
theorem lin1_any (Zn : Zone) (bx : Nat) (A : List (List Int)) (L : List Int) (xv : Value) (T : List Int) (next : Bool) (w : World) (h : LnAt Zn bx A L w) (hbx : ¬ Zn bx) (hnew : ∀ b, w.heap.size ≤ b → Zn b) (hT : HeldE (intE .i32) (fun b => ¬ Zn b ∧ b ≠ bx) w xv T)
    (hl : L.length + T.length ≤ 10000000000000) (hA : A.length ≤ 1000000) : Calls Try.prog 57 #[xv, .bool next, .pointer (some ⟨bx, 0, none⟩)] w (fun e w' => e = .returned (.tuple #[]) ∧ LnAt Zn bx (rst (A, L) (T, next)).1 (rst (A, L) (T, next)).2 w' ∧ Upd (fun b => Zn b ∨ b = bx) w w') := by
  obtain ⟨g, cap, m, Q, ob, hh, ho, hg, hd, ha, hm⟩ := h
  have HBX := Lib.hid hbx
  have hA : Q.length ≤ 1000000 := by rw [← ha, List.length_map] at hA; exact hA
  have HQM := Lib.hid hA
  have HM := Lib.hid hm
  have HG := Lib.hid hg
  have HX := Lib.hid hT
  have HNW := Lib.hid hnew
  have HBO := Lib.hid (show ¬ (ob = some bx) from fun e => by obtain ⟨_, _, _, _, hz⟩ := ot_last ho; exact hbx (hz bx e).1)
  have HCAP := Lib.hid (show m ≤ cap from by obtain ⟨g9, c9, e, h9, _⟩ := own_some ho (by simp); cases e; rw [hm]; simpa using h9)
  have HO := Lib.hid ho
  have HH := Lib.hid hh
  have HD := Lib.hid hd
  have HQS := Lib.hid (ot_lt ho)
  have HLT := Lib.hid hh.lt
  have HGT := Lib.hid (show g < w.heap.size from (ho.lt g rfl).2)
  subst ha
  cases next
  · have HLL := Lib.hid hl
    rw [show rst (Q.map Prod.fst, L) (T, false) = (Q.map Prod.fst, L ++ T) from rfl]
    clear hbx hnew hT hl hA hh ho hg hd hm
    go_enter Try.func57, Try.ntmps57

    obtain ⟨tv, htc, hto, htb, htz⟩ := ot_last HO.out
    have HTV := Lib.hid hto
    have HTB := Lib.hid htb
    have HTZ := Lib.hid htz
    have HROW := Lib.hid (ot_row9 HO.out)
    have hgl := (Array.getElem?_eq_some_iff.1 HROW.out.choose_spec.choose_spec).1
    have HTC := Lib.hid htc
    have HGL := Lib.hid hgl
    have hb9 := HH.out.cell 0 _ rfl
    obtain ⟨q9, hq9⟩ : ∃ q9, q9 = Q.length := ⟨_, rfl⟩
    have HQ9 := Lib.hid hq9
    have hsub : IntKind.i64.wrap ((m : Int) - 1) = (q9 : Int) := by rw [IntKind.wrap_i64]; have := HM.out; have := HQM.out; omega
    have hlt1 : q9 < m := by have := HM.out; omega
    have hlt2 : (q9 : Int) < (m : Int) := by omega
    have hcap9 : m ≤ cap := HCAP.out
    have hlt3 : q9 < cap := by omega
    rw [← hq9] at htc
    clear hto htb htz hq9 hgl htc
    go_wp2
    obtain ⟨Erg, hErg⟩ : ∃ EE : Nat → Value → World → Prop, EE = fun jj xx ww => match jj with
        | 0 => xx = .slice (some ⟨g, 0, none⟩) m cap
        | 1 => xx = .int .i64 (q9 : Int)
        | 2 => xx = .slice (some ⟨g, 0, none⟩) m cap
        | 3 => xx = .int .i64 (q9 : Int)
        | 4 => xx = .pointer (some ⟨g, q9, none⟩)
        | 5 => xx = tv
        | 6 => xx = xv
        | 7 => (fun x w' => OwnE (intE .i32) (fun _ => False) w' 0 21 x (L ++ T) ∧ ∀ b, x.ownBlock = some b → (Zn b ∧ b ≠ g) ∧ (ob = some b ∨ w.heap.size ≤ b)) xx ww
        | 8 => xx = .pointer (some ⟨g, q9, none⟩)
        | 9 => xx = undef
        | _ => True := ⟨_, rfl⟩
    have erg0 : ∀ xx ww, Erg 0 xx ww = (xx = .slice (some ⟨g, 0, none⟩) m cap) := fun xx ww => congrFun (congrFun (congrFun hErg 0) xx) ww
    have erg1 : ∀ xx ww, Erg 1 xx ww = (xx = .int .i64 (q9 : Int)) := fun xx ww => congrFun (congrFun (congrFun hErg 1) xx) ww
    have erg2 : ∀ xx ww, Erg 2 xx ww = (xx = .slice (some ⟨g, 0, none⟩) m cap) := fun xx ww => congrFun (congrFun (congrFun hErg 2) xx) ww
    have erg3 : ∀ xx ww, Erg 3 xx ww = (xx = .int .i64 (q9 : Int)) := fun xx ww => congrFun (congrFun (congrFun hErg 3) xx) ww
    have erg4 : ∀ xx ww, Erg 4 xx ww = (xx = .pointer (some ⟨g, q9, none⟩)) := fun xx ww => congrFun (congrFun (congrFun hErg 4) xx) ww
    have erg5 : ∀ xx ww, Erg 5 xx ww = (xx = tv) := fun xx ww => congrFun (congrFun (congrFun hErg 5) xx) ww
    have erg6 : ∀ xx ww, Erg 6 xx ww = (xx = xv) := fun xx ww => congrFun (congrFun (congrFun hErg 6) xx) ww
    have erg7 : ∀ xx ww, Erg 7 xx ww = ((fun x w' => OwnE (intE .i32) (fun _ => False) w' 0 21 x (L ++ T) ∧ ∀ b, x.ownBlock = some b → (Zn b ∧ b ≠ g) ∧ (ob = some b ∨ w.heap.size ≤ b)) xx ww) := fun xx ww => congrFun (congrFun (congrFun hErg 7) xx) ww
    have erg8 : ∀ xx ww, Erg 8 xx ww = (xx = .pointer (some ⟨g, q9, none⟩)) := fun xx ww => congrFun (congrFun (congrFun hErg 8) xx) ww
    have erg9 : ∀ xx ww, Erg 9 xx ww = (xx = undef) := fun xx ww => congrFun (congrFun (congrFun hErg 9) xx) ww
    obtain ⟨Crg, hCrg⟩ : ∃ CC : Array Bool → World → Prop, CC = fun L8 w' => (Mix.one L8 7 = 0 → Below w.heap.size w w') ∧ (Mix.one L8 9 = 0 → Upd (fun b => ob = some b) w w') ∧ (Mix.one L8 9 = 1 → LnAt Zn bx (Q.map Prod.fst) (L ++ T) w' ∧ Upd (fun b => Zn b ∨ b = bx) w w') := ⟨_, rfl⟩
    have krg : ∀ i L w, i ≠ 7 → i ≠ 9 →  Crg L w → Crg (L.setIfInBounds i true) w := by
      intro i L w q7 q9 h
      rw [hCrg] at h ⊢
      simp only [Mix.one_ne q7, Mix.one_ne q9]; exact h
    obtain ⟨Xrg, hXrg⟩ : ∃ XX : Nat → World → World → Prop, XX = fun kk ww1 ww2 => if kk = 7 then (fun x y => Upd (fun b => ob = some b) x y) ww1 ww2 else (fun x y => Upd (fun b => b = g) x y) ww1 ww2 := ⟨_, rfl⟩
    have xrg : ∀ {k : Nat} (w : World), Xrg k w w := by
      intro k w
      rw [hXrg]
      show if k = 7 then _ else _
      split
      · exact Upd.refl _ _
      · exact Upd.refl _ _
    have crg : Crg (Array.replicate 10 false) w.drew := by rw [hCrg]; exact ⟨fun _ => (Below.refl _ _).drew, fun _ => (Upd.refl _ _).drew, fun e => absurd e (by decide)⟩
    have brg : ∀ L w w1, Crg L w → Below w.heap.size w w1 → Crg L w1 := by
      intro L w w1 h hb
      rw [hCrg] at h ⊢
      (obtain ⟨q1, q2, q3⟩ := h; exact ⟨fun e => (q1 e).trans (hb.mono (q1 e).size), fun e => (q2 e).trans (.ofBelow hb), fun e => ⟨(q3 e).1.below hb, (q3 e).2.trans (.ofBelow hb)⟩⟩)
    have xbrg : ∀ {k : Nat} (w w1 : World), Below w.heap.size w w1 → Xrg k w w1 := by
      intro k w w1 hb
      rw [hXrg]
      show if k = 7 then _ else _
      split
      · exact Upd.ofBelow hb
      · exact Upd.ofBelow hb
    have Hrgb := Lib.hid brg
    have Hrgxb : Go.RowKit.Hid (∀ {k : Nat} (w w1 : World), Below w.heap.size w w1 → Xrg k w w1) := @xbrg
    clear brg xbrg
    have HrghE := Lib.hid hErg
    clear hErg
    have Hrgk := Lib.hid krg
    have Hrgx : Go.RowKit.Hid (∀ {k : Nat} (w : World), Xrg k w w) := @xrg
    have Hrgc := Lib.hid crg
    have HrghC := Lib.hid hCrg
    have HrghX := Lib.hid hXrg
    have Hrge0 := Lib.hid erg0
    have Hrge1 := Lib.hid erg1
    have Hrge2 := Lib.hid erg2
    have Hrge3 := Lib.hid erg3
    have Hrge4 := Lib.hid erg4
    have Hrge5 := Lib.hid erg5
    have Hrge6 := Lib.hid erg6
    have Hrge7 := Lib.hid erg7
    have Hrge8 := Lib.hid erg8
    have Hrge9 := Lib.hid erg9
    clear krg xrg crg hCrg hXrg erg0 erg1 erg2 erg3 erg4 erg5 erg6 erg7 erg8 erg9
    go_wp2_with fail
    refine RegX.regionF Erg Crg Xrg ?_ (by kernel_rfl) (by kernel_rfl) (by kernel_rfl) Hrgc.out (fun Frg hFrg => ?_)
    · intro ii jj x w w1 hji hr hx h
      rw [HrghX.out] at hx
      by_cases hi : ii = 7
      · subst hi
        simp only [if_pos] at hx
        match jj with
        | 0 => rw [Hrge0.out] at h ⊢; exact h
        | 1 => rw [Hrge1.out] at h ⊢; exact h
        | 2 => rw [Hrge2.out] at h ⊢; exact h
        | 3 => rw [Hrge3.out] at h ⊢; exact h
        | 4 => rw [Hrge4.out] at h ⊢; exact h
        | 5 => rw [Hrge5.out] at h ⊢; exact h
        | 6 => rw [Hrge6.out] at h ⊢; exact h
        | 7 => exact absurd rfl hji
        | 8 => rw [Hrge8.out] at h ⊢; exact h
        | 9 => rw [Hrge9.out] at h ⊢; exact h
        | jj + 10 => rw [HrghE.out]; trivial
      · simp only [if_neg hi] at hx
        match jj with
        | 0 => rw [Hrge0.out] at h ⊢; exact h
        | 1 => rw [Hrge1.out] at h ⊢; exact h
        | 2 => rw [Hrge2.out] at h ⊢; exact h
        | 3 => rw [Hrge3.out] at h ⊢; exact h
        | 4 => rw [Hrge4.out] at h ⊢; exact h
        | 5 => rw [Hrge5.out] at h ⊢; exact h
        | 6 => rw [Hrge6.out] at h ⊢; exact h
        | 7 => rw [Hrge7.out] at h ⊢; (exact ⟨OwnE.upd h.1 hx (fun b hb e => by rcases hb with hb | hb; exact hb.elim; exact (h.2 b hb).1.2 e), h.2⟩)
        | 8 => rw [Hrge8.out] at h ⊢; exact h
        | 9 => rw [Hrge9.out] at h ⊢; exact h
        | jj + 10 => rw [HrghE.out]; trivial
    simp only [Reg.frame, Reg.dsts, List.map_cons, List.map_nil, Mix.put_lit, Reg.put_none, List.set_cons_succ, List.set_cons_zero, Nat.zero_add, Nat.reduceAdd] at hFrg
    refine ⟨?_, ?_⟩
    · refine ⟨?_, ?_, ?_, ?_, ?_, ?_, ?_, ?_, ?_, ?_, trivial⟩
      · intro Lq wq xq hh
        simp only [hFrg]
        refine .inl ⟨rfl, ?_⟩
        unfold Reg.upon
        have hc : Crg Lq wq := hh.cls
        rw [HrghC.out] at hc
        have q0 := (((hc.2.1 (Mix.one_un (hh.notYet 9 (by kernel_rfl)))).keep.has HH.out (HBO.out)).cell 0 _ rfl)
        clear hc
        have hk := Hrgk.out 0 Lq wq (by decide) (by decide)  hh.cls
        have hx : Xrg 0 wq wq := Hrgx.out wq
        have he : Erg 0 (.slice (some ⟨g, 0, none⟩) m cap) wq := by rw [Hrge0.out]
        have HK := Lib.hid (And.intro hk (And.intro he hx))
        clear hk hx he
        go_simp
        exact HK.out
      · intro Lq wq xq hh
        simp only [hFrg]
        refine .inl ⟨rfl, ?_⟩
        unfold Reg.upon
        have hk := Hrgk.out 1 Lq wq (by decide) (by decide)  hh.cls
        have hx : Xrg 1 wq wq := Hrgx.out wq
        have he : Erg 1 (.int .i64 (q9 : Int)) wq := by rw [Hrge1.out]
        have HK := Lib.hid (And.intro hk (And.intro he hx))
        clear hk hx he
        go_simp
        exact HK.out
      · intro Lq wq xq hh
        simp only [hFrg]
        refine .inl ⟨rfl, ?_⟩
        unfold Reg.upon
        have hc : Crg Lq wq := hh.cls
        rw [HrghC.out] at hc
        have q0 := (((hc.2.1 (Mix.one_un (hh.notYet 9 (by kernel_rfl)))).keep.has HH.out (HBO.out)).cell 0 _ rfl)
        clear hc
        have hk := Hrgk.out 2 Lq wq (by decide) (by decide)  hh.cls
        have hx : Xrg 2 wq wq := Hrgx.out wq
        have he : Erg 2 (.slice (some ⟨g, 0, none⟩) m cap) wq := by rw [Hrge2.out]
        have HK := Lib.hid (And.intro hk (And.intro he hx))
        clear hk hx he
        go_simp
        exact HK.out
      · intro Lq wq xq hh
        simp only [hFrg]
        refine .inl ⟨rfl, ?_⟩
        unfold Reg.upon
        have hk := Hrgk.out 3 Lq wq (by decide) (by decide)  hh.cls
        have hx : Xrg 3 wq wq := Hrgx.out wq
        have he : Erg 3 (.int .i64 (q9 : Int)) wq := by rw [Hrge3.out]
        have HK := Lib.hid (And.intro hk (And.intro he hx))
        clear hk hx he
        go_simp
        exact HK.out
      · intro Lq wq xq hh
        have d2 : Erg 2 (xq 2) wq := hh.val 2 (by kernel_rfl) (by kernel_rfl)
        rw [Hrge2.out] at d2
        have d3 : Erg 3 (xq 3) wq := hh.val 3 (by kernel_rfl) (by kernel_rfl)
        rw [Hrge3.out] at d3
        simp only [hFrg, d2, d3]
        clear d2 d3
        refine .inl ⟨rfl, ?_⟩
        unfold Reg.upon
        have hk := Hrgk.out 4 Lq wq (by decide) (by decide)  hh.cls
        have hx : Xrg 4 wq wq := Hrgx.out wq
        have he : Erg 4 (.pointer (some ⟨g, q9, none⟩)) wq := by rw [Hrge4.out]
        have HK := Lib.hid (And.intro hk (And.intro he hx))
        clear hk hx he
        go_simp
        exact HK.out
      · intro Lq wq xq hh
        have d4 : Erg 4 (xq 4) wq := hh.val 4 (by kernel_rfl) (by kernel_rfl)
        rw [Hrge4.out] at d4
        simp only [hFrg, d4]
        clear d4
        refine .inl ⟨rfl, ?_⟩
        unfold Reg.upon
        have hc : Crg Lq wq := hh.cls
        rw [HrghC.out] at hc
        have q0 := ((hc.1 (Mix.one_un (hh.notYet 7 (by kernel_rfl)))).cell (p := ⟨g, q9, none⟩) HGL.out).trans (show w.cell? ⟨g, q9, none⟩ = some tv from by rw [HQ9.out]; exact HTC.out)
        clear hc
        have hk := Hrgk.out 5 Lq wq (by decide) (by decide)  hh.cls
        have hx : Xrg 5 wq wq := Hrgx.out wq
        have he : Erg 5 (tv) wq := by rw [Hrge5.out]
        have HK := Lib.hid (And.intro hk (And.intro he hx))
        clear hk hx he
        go_simp
        exact HK.out
      · intro Lq wq xq hh
        simp only [hFrg]
        refine .inl ⟨rfl, ?_⟩
        unfold Reg.upon
        have hk := Hrgk.out 6 Lq wq (by decide) (by decide)  hh.cls
        have hx : Xrg 6 wq wq := Hrgx.out wq
        have he : Erg 6 (xv) wq := by rw [Hrge6.out]
        have HK := Lib.hid (And.intro hk (And.intro he hx))
        clear hk hx he
        go_simp
        exact HK.out
      · intro Lq wq xq hh
        have d5 : Erg 5 (xq 5) wq := hh.val 5 (by kernel_rfl) (by kernel_rfl)
        rw [Hrge5.out] at d5
        have d6 : Erg 6 (xq 6) wq := hh.val 6 (by kernel_rfl) (by kernel_rfl)
        rw [Hrge6.out] at d6
        simp only [hFrg, d5, d6]
        clear d5 d6
        refine .inl ⟨rfl, ?_⟩
        unfold Reg.upon
        have hc : Crg Lq wq := hh.cls
        rw [HrghC.out] at hc
        have hc7 := hc.1 hh.un
        have hc9 := hc.2.1 (Mix.one_un (hh.notYet 9 (by kernel_rfl)))
        obtain ⟨v', w', hr, h1, h2, h3, h4⟩ := run_append_e (P := Try.prog) (E := intE .i32) (Z := fun _ => True) (w := wq) (B := 0) (ty := 21) 22 _ (.int .i32 0) 4 Try.underlying22 info_tx rfl (by decide) (HTV.out.below hc7) ((HX.out.below hc7).zoned (Y := fun b => True ∧ tv.ownBlock ≠ some b) (fun b _ hz => ⟨trivial, fun e => hz.1 (HTZ.out b (by rw [← HTB.out]; exact e)).1⟩)) (by have := HLL.out; omega) (by have := HLL.out; omega) (Nat.zero_le _)
        have hu : Upd (fun b => ob = some b) wq w' := ⟨h2.os, h2.tape, h2.output, h3.size, fun b hb hn => h3.block b hb (by rw [HTB.out]; exact hn)⟩
        have hlt9 := h1.lt
        rw [exec_app rfl rfl rfl hr]
        refine ⟨?_, ?_, ?_⟩
        · rw [HrghC.out]
          refine ⟨fun e => ?_, fun _ => hc9.trans hu, fun e => ?_⟩
          · rw [Mix.one_set (by rw [hh.size]; decide)] at e; exact absurd e (by decide)
          · rw [Mix.one_ne (by decide), Mix.one_un (hh.notYet 9 (by kernel_rfl))] at e; cases e
        · rw [Hrge7.out]
          refine ⟨ownE_ints h1.ints, fun b hb => ?_⟩
          by_cases hbl : b < wq.heap.size
          · have ho : tv.ownBlock = some b := by
              refine Classical.byContradiction fun hne => ?_
              exact h4 b hbl hne hb
            exact ⟨HTZ.out b (by rw [← HTB.out]; exact ho), .inl (by rw [← HTB.out]; exact ho)⟩
          · have hsz := hc7.size
            exact ⟨⟨HNW.out b (by omega), fun e => by have := HGL.out; omega⟩, .inr (by omega)⟩
        · rw [HrghX.out]; exact hu
      · intro Lq wq xq hh
        have d0 : Erg 0 (xq 0) wq := hh.val 0 (by kernel_rfl) (by kernel_rfl)
        rw [Hrge0.out] at d0
        have d1 : Erg 1 (xq 1) wq := hh.val 1 (by kernel_rfl) (by kernel_rfl)
        rw [Hrge1.out] at d1
        simp only [hFrg, d0, d1]
        clear d0 d1
        refine .inl ⟨rfl, ?_⟩
        unfold Reg.upon
        have hk := Hrgk.out 8 Lq wq (by decide) (by decide)  hh.cls
        have hx : Xrg 8 wq wq := Hrgx.out wq
        have he : Erg 8 (.pointer (some ⟨g, q9, none⟩)) wq := by rw [Hrge8.out]
        have HK := Lib.hid (And.intro hk (And.intro he hx))
        clear hk hx he
        go_simp
        exact HK.out
      · intro Lq wq xq hh
        have d7 : Erg 7 (xq 7) wq := hh.val 7 (by kernel_rfl) (by kernel_rfl)
        rw [Hrge7.out] at d7
        have d8 : Erg 8 (xq 8) wq := hh.val 8 (by kernel_rfl) (by kernel_rfl)
        rw [Hrge8.out] at d8
        simp only [hFrg, d8]
        clear d8
        refine .inl ⟨rfl, ?_⟩
        unfold Reg.upon
        have hc : Crg Lq wq := hh.cls
        rw [HrghC.out] at hc
        have hc9 := hc.2.1 hh.un
        obtain ⟨a5, c5, e5⟩ := (OwnE.held d7.1 (Z := fun _ => True) (fun b h _ => trivial)).len
        have hog : ob ≠ some g := fun e => (HTZ.out _ e).2 rfl
        have hrow := (hc9.block g HGL.out hog).trans HROW.out.choose_spec.choose_spec
        have hcel : wq.cell? ⟨g, q9, none⟩ = some tv := (hc9.keep.cell HGL.out hog).trans (show w.cell? ⟨g, q9, none⟩ = some tv from by rw [HQ9.out]; exact HTC.out)
        have hput := ot_put HO.out HD.out hog hc9.keep (ot_rep.2 ⟨xq 7, rfl, ownE_ints d7.1.ints, rfl, fun b hb => (d7.2 b hb).1⟩ : otE.rep (fun b => Zn b ∧ b ≠ g) wq [xq 7] (L ++ T, (xq 7).ownBlock))
        have hhas := (hc9.keep.has HH.out (HBO.out)).setOther ⟨g, q9, none⟩ (xq 7) (fun e => HBX.out (by rw [e]; exact HG.out))
        have hu1 := hc9.mono (T := fun b => Zn b ∨ b = bx) (fun b _ e => .inl (HTZ.out b e).1)
        have hu2 := hu1.setCell (p := ⟨g, q9, none⟩) (.inl (.inl HG.out)) (xq 7)
        have hu3 := (Upd.refl (fun b => b = g) wq).setCell (p := ⟨g, q9, none⟩) (.inl rfl) (xq 7)
        have hnd : ∀ p ∈ Q, ∀ b, p.2 = some b → (xq 7).ownBlock ≠ some b := fun p hp b e1 e2 => by rcases (d7.2 b e2).2 with e3 | e3; exact HD.out p hp b e1 e3; have := HQS.out p (List.mem_append.2 (.inl hp)) b e1; omega
        rw [← HQ9.out] at hput
        rw [e5] at hput hhas hu2 hu3
        rw [exec_store_sl (b := g) (off := q9) rfl rfl e5 tv hcel (frozen_of_row wq g q9 _ _ hrow) (by kernel_rfl)]
        refine ⟨?_, by rw [Hrge9.out], by rw [HrghX.out]; exact hu3⟩
        rw [HrghC.out]
        refine ⟨fun e => ?_, fun e => ?_, fun _ => ⟨⟨g, cap, m, Q, (xq 7).ownBlock, hhas, by rw [e5]; exact hput, HG.out, hnd, rfl, HM.out⟩, hu2⟩⟩
        · have := hh.isDone 7 (by kernel_rfl)
          rw [Mix.one_ne (by decide), this] at e; cases e
        · rw [Mix.one_set (by rw [hh.size]; decide)] at e; exact absurd e (by decide)
    intro xq wrg hcrg hvrg
    rw [HrghC.out] at hcrg
    simp only [hFrg]
    clear hvrg hFrg Hrgk Hrgx HrghE Hrgc HrghC HrghX Hrgb Hrgxb Hrge0 Hrge1 Hrge2 Hrge3 Hrge4 Hrge5 Hrge6 Hrge7 Hrge8 Hrge9
    obtain ⟨_, _, k3⟩ := hcrg
    obtain ⟨k4, k5⟩ := k3 (by kernel_rfl)
    have HR := Lib.hid (And.intro k4 k5)
    clear k4 k5
    go_wp2
    exact bodyPost_end (by kernel_rfl) rfl ⟨rfl, HR.out.1, HR.out.2⟩
  · have HLL3 := Lib.hid (show ([] : List Int).length + T.length ≤ 10000000000000 by simp only [List.length_nil]; omega)
    rw [show rst (Q.map Prod.fst, L) (T, true) = (Q.map Prod.fst ++ [L], T) from rfl]
    have b0 := (Below.refl w.heap.size w).alloc (Nat.le_refl _) (.cells [.slice none 0 0].toArray 22)
    have HU := Lib.hid (show HeldE otE (fun b => Zn b ∧ (Value.slice (some ⟨g, 0, none⟩) m cap).ownBlock ≠ some b) (w.alloc (.cells [.slice none 0 0].toArray 22)) (.slice (some ⟨w.heap.size, 0, none⟩) 1 1) [([], none)] from heldE_one (Y := fun _ => False) [.slice none 0 0] ([], none) (ot_rep.2 ⟨_, rfl, OwnE.nil _ _ _ _ _, rfl, fun b e => by cases e⟩) (fun _ _ h => h.elim) ⟨hnew _ (Nat.le_refl _), fun e => by simp only [Value.ownBlock, Option.some.injEq] at e; have := HGT.out; omega⟩)
    have HO1 := Lib.hid (ho.below b0)
    have HH1 := Lib.hid (hh.below b0 hh.lt)
    have HX1 := Lib.hid (hT.below b0)
    have HB0 := Lib.hid b0
    have hb9 := hh.cell 0 _ rfl
    clear hbx hnew hT hl hh ho hg hd hm b0
    go_enter Try.func57, Try.ntmps57
    go_wp2_with (at_builtin; refine wpList_append_e (E := otE) (Z := Zn) rfl (.tmp 7) (.tmp 8) 36 rfl (.slice none 0 0) 24 Try.underlying36 info_ot rfl (by decide) rfl rfl HO1.out HU.out (by have := HQM.out; simp only [List.length_append, List.length_singleton]; omega) (by have := HQM.out; simp only [List.length_append, List.length_singleton]; omega) (Nat.zero_le _) ?_)
    intro v2 w2 ho2 b2 k2 f2
    obtain ⟨Q3, hQ3⟩ : ∃ Q3, Q3 = Q ++ [(L, ob)] := ⟨_, rfl⟩
    have ho2 : OwnE otE Zn w2 0 22 v2 (Q3 ++ [(([] : List Int), (none : Option Nat))]) := by rw [hQ3]; simpa using ho2
    obtain ⟨g3, cap3, rfl, hcap2, D2, hD2⟩ := own_some ho2 (by simp)
    have hm3 : (Q3 ++ [(([] : List Int), (none : Option Nat))]).length = Q3.length + 1 := by simp
    rw [hm3] at ho2 hcap2 ⊢
    obtain ⟨m3, hmm⟩ : ∃ m3, m3 = Q3.length + 1 := ⟨_, rfl⟩
    rw [← hmm] at ho2 hcap2 ⊢
    have HM3 := Lib.hid hmm
    have HQ3 := Lib.hid hQ3
    have HCAP3 := Lib.hid hcap2
    have hql : Q3.length = Q.length + 1 := by rw [hQ3]; simp
    have HQM3 := Lib.hid (show Q3.length ≤ 1000001 by omega)
    have hzg : Zn g3 := by
      by_cases hl : g3 < (w.alloc (.cells [.slice none 0 0].toArray 22)).heap.size
      · by_cases e : g = g3
        · rw [← e]; exact HG.out
        · exact absurd rfl (f2 g3 (by simpa using hl) (fun e9 => e (by simpa [Value.ownBlock] using e9)))
      · exact HNW.out g3 (by have := HB0.out.size; omega)
    have hgb : g ≠ bx := fun e => HBX.out (by rw [← e]; exact HG.out)
    have hh2 := k2.has HH1.out (fun e => hgb (by simpa [Value.ownBlock] using e))
    have hc2 := hh2.cell 0 _ rfl
    have hf2 := hh2.free 0
    have hs2 := hh2.set 0 (.slice (some ⟨g3, 0, none⟩) m3 cap3)
    have hu1 : Upd (fun b => b = g) (w.alloc (.cells [.slice none 0 0].toArray 22)) w2 := ⟨b2.os, b2.tape, b2.output, k2.size, fun b hb hn => k2.block b hb (fun e => hn (by simpa [Value.ownBlock] using e.symm))⟩
    have hu2 := (Upd.refl (fun b => b = bx) w2).setCell (p := ⟨bx, 0, none⟩) (.inl rfl) (.slice (some ⟨g3, 0, none⟩) m3 cap3)
    obtain ⟨w3, hw3⟩ : ∃ w3, w3 = w2.setCell ⟨bx, 0, none⟩ (.slice (some ⟨g3, 0, none⟩) m3 cap3) := ⟨_, rfl⟩
    rw [← hw3] at hs2 hu2
    have HH3 := Lib.hid hs2
    have ho3 := ho2.upd hu2 (fun b hb e => by
      rcases hb with hb | hb
      · subst e; exact HBX.out hb
      · simp only [Value.ownBlock, Option.some.injEq] at hb
        subst hb e
        exact HBX.out hzg)
    have HO3 := Lib.hid ho3
    have HG3 := Lib.hid hzg
    have HD3 := Lib.hid (show ∀ p ∈ Q3, ∀ b, p.2 = some b → (none : Option Nat) ≠ some b from fun p _ b _ e => by cases e)
    have HX3 := Lib.hid ((HX1.out.upd hu1 (fun b hb e => hb.1 (by rw [e]; exact HG.out))).upd hu2 (fun b hb e => hb.2 e))
    have HQS3 := Lib.hid (ot_lt ho3)
    have HBO3 := Lib.hid (show ¬ ((none : Option Nat) = some bx) from fun e => by cases e)
    have hu3 := ((Upd.ofBelow (S := fun b => Zn b ∨ b = bx) HB0.out).trans (hu1.mono (fun b _ e => .inl (by rw [e]; exact HG.out)))).trans (hu2.mono (fun b _ e => .inr e))
    have HNW3 := Lib.hid (show ∀ b, w3.heap.size ≤ b → Zn b from fun b hb => HNW.out b (Nat.le_trans hu3.size hb))
    have HU3 := Lib.hid hu3
    have HA3 := Lib.hid (show Q3.map Prod.fst = Q.map Prod.fst ++ [L] from by rw [hQ3]; simp)
    have HW3 := Lib.hid hw3
    clear hs2 hu1 hu2 hu3 ho3 ho2 hzg hgb hh2 b2 k2 f2 hD2 hmm hQ3 hql hm3 hcap2 hb9 hA hw3
    go_upto_region 2 with (fail)
    rw [← HW3.out]
    clear hc2 hf2

    obtain ⟨tv, htc, hto, htb, htz⟩ := ot_last HO3.out
    have HTV3 := Lib.hid hto
    have HTB := Lib.hid htb
    have HTZ := Lib.hid htz
    have HROW3 := Lib.hid (ot_row9 HO3.out)
    have hgl := (Array.getElem?_eq_some_iff.1 HROW3.out.choose_spec.choose_spec).1
    have HTC := Lib.hid htc
    have HGL := Lib.hid hgl
    have hb9 := HH3.out.cell 0 _ rfl
    obtain ⟨q9, hq9⟩ : ∃ q9, q9 = Q3.length := ⟨_, rfl⟩
    have HQ9 := Lib.hid hq9
    have hsub : IntKind.i64.wrap ((m3 : Int) - 1) = (q9 : Int) := by rw [IntKind.wrap_i64]; have := HM3.out; have := HQM3.out; omega
    have hlt1 : q9 < m3 := by have := HM3.out; omega
    have hlt2 : (q9 : Int) < (m3 : Int) := by omega
    have hcap9 : m3 ≤ cap3 := HCAP3.out
    have hlt3 : q9 < cap3 := by omega
    rw [← hq9] at htc
    clear hto htb htz hq9 hgl htc
    go_wp2
    obtain ⟨Erg3, hErg3⟩ : ∃ EE : Nat → Value → World → Prop, EE = fun jj xx ww => match jj with
        | 0 => xx = .slice (some ⟨g3, 0, none⟩) m3 cap3
        | 1 => xx = .int .i64 (q9 : Int)
        | 2 => xx = .slice (some ⟨g3, 0, none⟩) m3 cap3
        | 3 => xx = .int .i64 (q9 : Int)
        | 4 => xx = .pointer (some ⟨g3, q9, none⟩)
        | 5 => xx = tv
        | 6 => xx = xv
        | 7 => (fun x w' => OwnE (intE .i32) (fun _ => False) w' 0 21 x ([] ++ T) ∧ ∀ b, x.ownBlock = some b → (Zn b ∧ b ≠ g3) ∧ ((none : Option Nat) = some b ∨ w3.heap.size ≤ b)) xx ww
        | 8 => xx = .pointer (some ⟨g3, q9, none⟩)
        | 9 => xx = undef
        | _ => True := ⟨_, rfl⟩
    have erg30 : ∀ xx ww, Erg3 0 xx ww = (xx = .slice (some ⟨g3, 0, none⟩) m3 cap3) := fun xx ww => congrFun (congrFun (congrFun hErg3 0) xx) ww
    have erg31 : ∀ xx ww, Erg3 1 xx ww = (xx = .int .i64 (q9 : Int)) := fun xx ww => congrFun (congrFun (congrFun hErg3 1) xx) ww
    have erg32 : ∀ xx ww, Erg3 2 xx ww = (xx = .slice (some ⟨g3, 0, none⟩) m3 cap3) := fun xx ww => congrFun (congrFun (congrFun hErg3 2) xx) ww
    have erg33 : ∀ xx ww, Erg3 3 xx ww = (xx = .int .i64 (q9 : Int)) := fun xx ww => congrFun (congrFun (congrFun hErg3 3) xx) ww
    have erg34 : ∀ xx ww, Erg3 4 xx ww = (xx = .pointer (some ⟨g3, q9, none⟩)) := fun xx ww => congrFun (congrFun (congrFun hErg3 4) xx) ww
    have erg35 : ∀ xx ww, Erg3 5 xx ww = (xx = tv) := fun xx ww => congrFun (congrFun (congrFun hErg3 5) xx) ww
    have erg36 : ∀ xx ww, Erg3 6 xx ww = (xx = xv) := fun xx ww => congrFun (congrFun (congrFun hErg3 6) xx) ww
    have erg37 : ∀ xx ww, Erg3 7 xx ww = ((fun x w' => OwnE (intE .i32) (fun _ => False) w' 0 21 x ([] ++ T) ∧ ∀ b, x.ownBlock = some b → (Zn b ∧ b ≠ g3) ∧ ((none : Option Nat) = some b ∨ w3.heap.size ≤ b)) xx ww) := fun xx ww => congrFun (congrFun (congrFun hErg3 7) xx) ww
    have erg38 : ∀ xx ww, Erg3 8 xx ww = (xx = .pointer (some ⟨g3, q9, none⟩)) := fun xx ww => congrFun (congrFun (congrFun hErg3 8) xx) ww
    have erg39 : ∀ xx ww, Erg3 9 xx ww = (xx = undef) := fun xx ww => congrFun (congrFun (congrFun hErg3 9) xx) ww
    obtain ⟨Crg3, hCrg3⟩ : ∃ CC : Array Bool → World → Prop, CC = fun L8 w' => (Mix.one L8 7 = 0 → Below w3.heap.size w3 w') ∧ (Mix.one L8 9 = 0 → Upd (fun b => (none : Option Nat) = some b) w3 w') ∧ (Mix.one L8 9 = 1 → LnAt Zn bx (Q3.map Prod.fst) ([] ++ T) w' ∧ Upd (fun b => Zn b ∨ b = bx) w3 w') := ⟨_, rfl⟩
    have krg3 : ∀ i L w, i ≠ 7 → i ≠ 9 →  Crg3 L w → Crg3 (L.setIfInBounds i true) w := by
      intro i L w q7 q9 h
      rw [hCrg3] at h ⊢
      simp only [Mix.one_ne q7, Mix.one_ne q9]; exact h
    obtain ⟨Xrg3, hXrg3⟩ : ∃ XX : Nat → World → World → Prop, XX = fun kk ww1 ww2 => if kk = 7 then (fun x y => Upd (fun b => (none : Option Nat) = some b) x y) ww1 ww2 else (fun x y => Upd (fun b => b = g3) x y) ww1 ww2 := ⟨_, rfl⟩
    have xrg3 : ∀ {k : Nat} (w : World), Xrg3 k w w := by
      intro k w
      rw [hXrg3]
      show if k = 7 then _ else _
      split
      · exact Upd.refl _ _
      · exact Upd.refl _ _
    have crg3 : Crg3 (Array.replicate 10 false) w3.drew := by rw [hCrg3]; exact ⟨fun _ => (Below.refl _ _).drew, fun _ => (Upd.refl _ _).drew, fun e => absurd e (by decide)⟩
    have brg3 : ∀ L w w1, Crg3 L w → Below w.heap.size w w1 → Crg3 L w1 := by
      intro L w w1 h hb
      rw [hCrg3] at h ⊢
      (obtain ⟨q1, q2, q3⟩ := h; exact ⟨fun e => (q1 e).trans (hb.mono (q1 e).size), fun e => (q2 e).trans (.ofBelow hb), fun e => ⟨(q3 e).1.below hb, (q3 e).2.trans (.ofBelow hb)⟩⟩)
    have xbrg3 : ∀ {k : Nat} (w w1 : World), Below w.heap.size w w1 → Xrg3 k w w1 := by
      intro k w w1 hb
      rw [hXrg3]
      show if k = 7 then _ else _
      split
      · exact Upd.ofBelow hb
      · exact Upd.ofBelow hb
    have Hrg3b := Lib.hid brg3
    have Hrg3xb : Go.RowKit.Hid (∀ {k : Nat} (w w1 : World), Below w.heap.size w w1 → Xrg3 k w w1) := @xbrg3
    clear brg3 xbrg3
    have Hrg3hE := Lib.hid hErg3
    clear hErg3
    have Hrg3k := Lib.hid krg3
    have Hrg3x : Go.RowKit.Hid (∀ {k : Nat} (w : World), Xrg3 k w w) := @xrg3
    have Hrg3c := Lib.hid crg3
    have Hrg3hC := Lib.hid hCrg3
    have Hrg3hX := Lib.hid hXrg3
    have Hrg3e0 := Lib.hid erg30
    have Hrg3e1 := Lib.hid erg31
    have Hrg3e2 := Lib.hid erg32
    have Hrg3e3 := Lib.hid erg33
    have Hrg3e4 := Lib.hid erg34
    have Hrg3e5 := Lib.hid erg35
    have Hrg3e6 := Lib.hid erg36
    have Hrg3e7 := Lib.hid erg37
    have Hrg3e8 := Lib.hid erg38
    have Hrg3e9 := Lib.hid erg39
    clear krg3 xrg3 crg3 hCrg3 hXrg3 erg30 erg31 erg32 erg33 erg34 erg35 erg36 erg37 erg38 erg39
    go_wp2_with fail
    refine RegX.regionF Erg3 Crg3 Xrg3 ?_ (by kernel_rfl) (by kernel_rfl) (by kernel_rfl) Hrg3c.out (fun Frg3 hFrg3 => ?_)
    · intro ii jj x w w1 hji hr hx h
      rw [Hrg3hX.out] at hx
      by_cases hi : ii = 7
      · subst hi
        simp only [if_pos] at hx
        match jj with
        | 0 => rw [Hrg3e0.out] at h ⊢; exact h
        | 1 => rw [Hrg3e1.out] at h ⊢; exact h
        | 2 => rw [Hrg3e2.out] at h ⊢; exact h
        | 3 => rw [Hrg3e3.out] at h ⊢; exact h
        | 4 => rw [Hrg3e4.out] at h ⊢; exact h
        | 5 => rw [Hrg3e5.out] at h ⊢; exact h
        | 6 => rw [Hrg3e6.out] at h ⊢; exact h
        | 7 => exact absurd rfl hji
        | 8 => rw [Hrg3e8.out] at h ⊢; exact h
        | 9 => rw [Hrg3e9.out] at h ⊢; exact h
        | jj + 10 => rw [Hrg3hE.out]; trivial
      · simp only [if_neg hi] at hx
        match jj with
        | 0 => rw [Hrg3e0.out] at h ⊢; exact h
        | 1 => rw [Hrg3e1.out] at h ⊢; exact h
        | 2 => rw [Hrg3e2.out] at h ⊢; exact h
        | 3 => rw [Hrg3e3.out] at h ⊢; exact h
        | 4 => rw [Hrg3e4.out] at h ⊢; exact h
        | 5 => rw [Hrg3e5.out] at h ⊢; exact h
        | 6 => rw [Hrg3e6.out] at h ⊢; exact h
        | 7 => rw [Hrg3e7.out] at h ⊢; (exact ⟨OwnE.upd h.1 hx (fun b hb e => by rcases hb with hb | hb; exact hb.elim; exact (h.2 b hb).1.2 e), h.2⟩)
        | 8 => rw [Hrg3e8.out] at h ⊢; exact h
        | 9 => rw [Hrg3e9.out] at h ⊢; exact h
        | jj + 10 => rw [Hrg3hE.out]; trivial
    simp only [Reg.frame, Reg.dsts, List.map_cons, List.map_nil, Mix.put_lit, Reg.put_none, List.set_cons_succ, List.set_cons_zero, Nat.zero_add, Nat.reduceAdd] at hFrg3
    refine ⟨?_, ?_⟩
    · refine ⟨?_, ?_, ?_, ?_, ?_, ?_, ?_, ?_, ?_, ?_, trivial⟩
      · intro Lq wq xq hh
        simp only [hFrg3]
        refine .inl ⟨rfl, ?_⟩
        unfold Reg.upon
        have hc : Crg3 Lq wq := hh.cls
        rw [Hrg3hC.out] at hc
        have q0 := (((hc.2.1 (Mix.one_un (hh.notYet 9 (by kernel_rfl)))).keep.has HH3.out (HBO3.out)).cell 0 _ rfl)
        clear hc
        have hk := Hrg3k.out 0 Lq wq (by decide) (by decide)  hh.cls
        have hx : Xrg3 0 wq wq := Hrg3x.out wq
        have he : Erg3 0 (.slice (some ⟨g3, 0, none⟩) m3 cap3) wq := by rw [Hrg3e0.out]
        have HK := Lib.hid (And.intro hk (And.intro he hx))
        clear hk hx he
        go_simp
        exact HK.out
      · intro Lq wq xq hh
        simp only [hFrg3]
        refine .inl ⟨rfl, ?_⟩
        unfold Reg.upon
        have hk := Hrg3k.out 1 Lq wq (by decide) (by decide)  hh.cls
        have hx : Xrg3 1 wq wq := Hrg3x.out wq
        have he : Erg3 1 (.int .i64 (q9 : Int)) wq := by rw [Hrg3e1.out]
        have HK := Lib.hid (And.intro hk (And.intro he hx))
        clear hk hx he
        go_simp
        exact HK.out
      · intro Lq wq xq hh
        simp only [hFrg3]
        refine .inl ⟨rfl, ?_⟩
        unfold Reg.upon
        have hc : Crg3 Lq wq := hh.cls
        rw [Hrg3hC.out] at hc
        have q0 := (((hc.2.1 (Mix.one_un (hh.notYet 9 (by kernel_rfl)))).keep.has HH3.out (HBO3.out)).cell 0 _ rfl)
        clear hc
        have hk := Hrg3k.out 2 Lq wq (by decide) (by decide)  hh.cls
        have hx : Xrg3 2 wq wq := Hrg3x.out wq
        have he : Erg3 2 (.slice (some ⟨g3, 0, none⟩) m3 cap3) wq := by rw [Hrg3e2.out]
        have HK := Lib.hid (And.intro hk (And.intro he hx))
        clear hk hx he
        go_simp
        exact HK.out
      · intro Lq wq xq hh
        simp only [hFrg3]
        refine .inl ⟨rfl, ?_⟩
        unfold Reg.upon
        have hk := Hrg3k.out 3 Lq wq (by decide) (by decide)  hh.cls
        have hx : Xrg3 3 wq wq := Hrg3x.out wq
        have he : Erg3 3 (.int .i64 (q9 : Int)) wq := by rw [Hrg3e3.out]
        have HK := Lib.hid (And.intro hk (And.intro he hx))
        clear hk hx he
        go_simp
        exact HK.out
      · intro Lq wq xq hh
        have d2 : Erg3 2 (xq 2) wq := hh.val 2 (by kernel_rfl) (by kernel_rfl)
        rw [Hrg3e2.out] at d2
        have d3 : Erg3 3 (xq 3) wq := hh.val 3 (by kernel_rfl) (by kernel_rfl)
        rw [Hrg3e3.out] at d3
        simp only [hFrg3, d2, d3]
        clear d2 d3
        refine .inl ⟨rfl, ?_⟩
        unfold Reg.upon
        have hk := Hrg3k.out 4 Lq wq (by decide) (by decide)  hh.cls
        have hx : Xrg3 4 wq wq := Hrg3x.out wq
        have he : Erg3 4 (.pointer (some ⟨g3, q9, none⟩)) wq := by rw [Hrg3e4.out]
        have HK := Lib.hid (And.intro hk (And.intro he hx))
        clear hk hx he
        go_simp
        exact HK.out
      · intro Lq wq xq hh
        have d4 : Erg3 4 (xq 4) wq := hh.val 4 (by kernel_rfl) (by kernel_rfl)
        rw [Hrg3e4.out] at d4
        simp only [hFrg3, d4]
        clear d4
        refine .inl ⟨rfl, ?_⟩
        unfold Reg.upon
        have hc : Crg3 Lq wq := hh.cls
        rw [Hrg3hC.out] at hc
        have q0 := ((hc.1 (Mix.one_un (hh.notYet 7 (by kernel_rfl)))).cell (p := ⟨g3, q9, none⟩) HGL.out).trans (show w3.cell? ⟨g3, q9, none⟩ = some tv from by rw [HQ9.out]; exact HTC.out)
        clear hc
        have hk := Hrg3k.out 5 Lq wq (by decide) (by decide)  hh.cls
        have hx : Xrg3 5 wq wq := Hrg3x.out wq
        have he : Erg3 5 (tv) wq := by rw [Hrg3e5.out]
        have HK := Lib.hid (And.intro hk (And.intro he hx))
        clear hk hx he
        go_simp
        exact HK.out
      · intro Lq wq xq hh
        simp only [hFrg3]
        refine .inl ⟨rfl, ?_⟩
        unfold Reg.upon
        have hk := Hrg3k.out 6 Lq wq (by decide) (by decide)  hh.cls
        have hx : Xrg3 6 wq wq := Hrg3x.out wq
        have he : Erg3 6 (xv) wq := by rw [Hrg3e6.out]
        have HK := Lib.hid (And.intro hk (And.intro he hx))
        clear hk hx he
        go_simp
        exact HK.out
      · intro Lq wq xq hh
        have d5 : Erg3 5 (xq 5) wq := hh.val 5 (by kernel_rfl) (by kernel_rfl)
        rw [Hrg3e5.out] at d5
        have d6 : Erg3 6 (xq 6) wq := hh.val 6 (by kernel_rfl) (by kernel_rfl)
        rw [Hrg3e6.out] at d6
        simp only [hFrg3, d5, d6]
        clear d5 d6
        refine .inl ⟨rfl, ?_⟩
        unfold Reg.upon
        have hc : Crg3 Lq wq := hh.cls
        rw [Hrg3hC.out] at hc
        have hc7 := hc.1 hh.un
        have hc9 := hc.2.1 (Mix.one_un (hh.notYet 9 (by kernel_rfl)))
        obtain ⟨v', w', hr, h1, h2, h3, h4⟩ := run_append_e (P := Try.prog) (E := intE .i32) (Z := fun _ => True) (w := wq) (B := 0) (ty := 21) 22 _ (.int .i32 0) 4 Try.underlying22 info_tx rfl (by decide) (HTV3.out.below hc7) ((HX3.out.below hc7).zoned (Y := fun b => True ∧ tv.ownBlock ≠ some b) (fun b _ hz => ⟨trivial, fun e => hz.1 (HTZ.out b (by rw [← HTB.out]; exact e)).1⟩)) (by have := HLL3.out; omega) (by have := HLL3.out; omega) (Nat.zero_le _)
        have hu : Upd (fun b => (none : Option Nat) = some b) wq w' := ⟨h2.os, h2.tape, h2.output, h3.size, fun b hb hn => h3.block b hb (by rw [HTB.out]; exact hn)⟩
        have hlt9 := h1.lt
        rw [exec_app rfl rfl rfl hr]
        refine ⟨?_, ?_, ?_⟩
        · rw [Hrg3hC.out]
          refine ⟨fun e => ?_, fun _ => hc9.trans hu, fun e => ?_⟩
          · rw [Mix.one_set (by rw [hh.size]; decide)] at e; exact absurd e (by decide)
          · rw [Mix.one_ne (by decide), Mix.one_un (hh.notYet 9 (by kernel_rfl))] at e; cases e
        · rw [Hrg3e7.out]
          refine ⟨ownE_ints h1.ints, fun b hb => ?_⟩
          by_cases hbl : b < wq.heap.size
          · have ho : tv.ownBlock = some b := by
              refine Classical.byContradiction fun hne => ?_
              exact h4 b hbl hne hb
            exact ⟨HTZ.out b (by rw [← HTB.out]; exact ho), .inl (by rw [← HTB.out]; exact ho)⟩
          · have hsz := hc7.size
            exact ⟨⟨HNW3.out b (by omega), fun e => by have := HGL.out; omega⟩, .inr (by omega)⟩
        · rw [Hrg3hX.out]; exact hu
      · intro Lq wq xq hh
        have d0 : Erg3 0 (xq 0) wq := hh.val 0 (by kernel_rfl) (by kernel_rfl)
        rw [Hrg3e0.out] at d0
        have d1 : Erg3 1 (xq 1) wq := hh.val 1 (by kernel_rfl) (by kernel_rfl)
        rw [Hrg3e1.out] at d1
        simp only [hFrg3, d0, d1]
        clear d0 d1
        refine .inl ⟨rfl, ?_⟩
        unfold Reg.upon
        have hk := Hrg3k.out 8 Lq wq (by decide) (by decide)  hh.cls
        have hx : Xrg3 8 wq wq := Hrg3x.out wq
        have he : Erg3 8 (.pointer (some ⟨g3, q9, none⟩)) wq := by rw [Hrg3e8.out]
        have HK := Lib.hid (And.intro hk (And.intro he hx))
        clear hk hx he
        go_simp
        exact HK.out
      · intro Lq wq xq hh
        have d7 : Erg3 7 (xq 7) wq := hh.val 7 (by kernel_rfl) (by kernel_rfl)
        rw [Hrg3e7.out] at d7
        have d8 : Erg3 8 (xq 8) wq := hh.val 8 (by kernel_rfl) (by kernel_rfl)
        rw [Hrg3e8.out] at d8
        simp only [hFrg3, d8]
        clear d8
        refine .inl ⟨rfl, ?_⟩
        unfold Reg.upon
        have hc : Crg3 Lq wq := hh.cls
        rw [Hrg3hC.out] at hc
        have hc9 := hc.2.1 hh.un
        obtain ⟨a5, c5, e5⟩ := (OwnE.held d7.1 (Z := fun _ => True) (fun b h _ => trivial)).len
        have hog : (none : Option Nat) ≠ some g3 := fun e => (HTZ.out _ e).2 rfl
        have hrow := (hc9.block g3 HGL.out hog).trans HROW3.out.choose_spec.choose_spec
        have hcel : wq.cell? ⟨g3, q9, none⟩ = some tv := (hc9.keep.cell HGL.out hog).trans (show w3.cell? ⟨g3, q9, none⟩ = some tv from by rw [HQ9.out]; exact HTC.out)
        have hput := ot_put HO3.out HD3.out hog hc9.keep (ot_rep.2 ⟨xq 7, rfl, ownE_ints d7.1.ints, rfl, fun b hb => (d7.2 b hb).1⟩ : otE.rep (fun b => Zn b ∧ b ≠ g3) wq [xq 7] ([] ++ T, (xq 7).ownBlock))
        have hhas := (hc9.keep.has HH3.out (HBO3.out)).setOther ⟨g3, q9, none⟩ (xq 7) (fun e => HBX.out (by rw [e]; exact HG3.out))
        have hu1 := hc9.mono (T := fun b => Zn b ∨ b = bx) (fun b _ e => .inl (HTZ.out b e).1)
        have hu2 := hu1.setCell (p := ⟨g3, q9, none⟩) (.inl (.inl HG3.out)) (xq 7)
        have hu3 := (Upd.refl (fun b => b = g3) wq).setCell (p := ⟨g3, q9, none⟩) (.inl rfl) (xq 7)
        have hnd : ∀ p ∈ Q3, ∀ b, p.2 = some b → (xq 7).ownBlock ≠ some b := fun p hp b e1 e2 => by rcases (d7.2 b e2).2 with e3 | e3; exact HD3.out p hp b e1 e3; have := HQS3.out p (List.mem_append.2 (.inl hp)) b e1; omega
        rw [← HQ9.out] at hput
        rw [e5] at hput hhas hu2 hu3
        rw [exec_store_sl (b := g3) (off := q9) rfl rfl e5 tv hcel (frozen_of_row wq g3 q9 _ _ hrow) (by kernel_rfl)]
        refine ⟨?_, by rw [Hrg3e9.out], by rw [Hrg3hX.out]; exact hu3⟩
        rw [Hrg3hC.out]
        refine ⟨fun e => ?_, fun e => ?_, fun _ => ⟨⟨g3, cap3, m3, Q3, (xq 7).ownBlock, hhas, by rw [e5]; exact hput, HG3.out, hnd, rfl, HM3.out⟩, hu2⟩⟩
        · have := hh.isDone 7 (by kernel_rfl)
          rw [Mix.one_ne (by decide), this] at e; cases e
        · rw [Mix.one_set (by rw [hh.size]; decide)] at e; exact absurd e (by decide)
    intro xq wrg3 hcrg3 hvrg3
    rw [Hrg3hC.out] at hcrg3
    simp only [hFrg3]
    clear hvrg3 hFrg3 Hrg3k Hrg3x Hrg3hE Hrg3c Hrg3hC Hrg3hX Hrg3b Hrg3xb Hrg3e0 Hrg3e1 Hrg3e2 Hrg3e3 Hrg3e4 Hrg3e5 Hrg3e6 Hrg3e7 Hrg3e8 Hrg3e9
    obtain ⟨_, _, k3⟩ := hcrg3
    obtain ⟨k4, k5⟩ := k3 (by kernel_rfl)
    rw [HA3.out, List.nil_append] at k4
    have HR := Lib.hid (And.intro k4 (HU3.out.trans k5))
    clear k4 k5
    go_wp2
    exact bodyPost_end (by kernel_rfl) rfl ⟨rfl, HR.out.1, HR.out.2⟩
/-- The box holds a count. -/
theorem cnt1_any (bx : Nat) (n : Nat) (xv : Value) (next : Bool) (w : World) (h : Has w bx [.int .i64 (n : Int)] 3) (hn : n ≤ 10000000) : Calls Try.prog 58 #[xv, .bool next, .pointer (some ⟨bx, 0, none⟩)] w (fun e w' => e = .returned (.tuple #[]) ∧ Has w' bx [.int .i64 ((n + if next = true then 1 else 0 : Nat) : Int)] 3 ∧ Upd (fun b => b = bx) w w') := by
  cases next
  · have HH := Lib.hid h
    clear h
    go_enter Try.func58, Try.ntmps58
    go_wp2
    exact bodyPost_end (by kernel_rfl) rfl ⟨rfl, HH.out, Upd.refl _ _⟩
  · have c := h.cell 0 _ rfl
    have f := h.free 0
    have hw : IntKind.i64.wrap ((n : Int) + 1) = (n : Int) + 1 := by rw [IntKind.wrap_i64]; omega
    have h2 := h.set 0 (.int .i64 ((n : Int) + 1))
    have HR := Lib.hid (And.intro h2 ((Upd.refl (fun b => b = bx) w).setCell (p := ⟨bx, 0, none⟩) (.inl rfl) (.int .i64 ((n : Int) + 1))))
    clear h h2
    go_enter Try.func58, Try.ntmps58
    go_wp2
    exact bodyPost_end (by kernel_rfl) rfl ⟨rfl, HR.out.1, HR.out.2⟩
end Go.Proofs.Ytgkcobmbdpgceaa
