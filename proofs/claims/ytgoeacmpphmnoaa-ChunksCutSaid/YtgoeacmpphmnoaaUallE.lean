/- Contracts of utfall: part. -/
import Derived.Test.YtgoeacmpphmnoaaUallD
import Derived.Test.YtgoeacmpphmnoaaObj
namespace Go.Proofs.Ytgoeacmpphmnoaa
open Go.RowKit Go.ChangeShapes Go.WideShapes
abbrev G5 := Int × Int × Int × Int × Bool
def gotV (g : G5) : Value := .agg #[.int .i32 g.1, .int .i64 g.2.1, .int .i64 g.2.2.1, .int .i64 g.2.2.2.1, .bool g.2.2.2.2]
def partG (xs : List Int) (p : Nat) : G5 :=
  if leadI (xs.getD p 0) = 0 then (65533, p, 1, p + 1, true) else
  if (begN (xs.drop p) (leadI (xs.getD p 0)) : Int) = leadI (xs.getD p 0) then (valF ((xs.drop p).take (begN (xs.drop p) (leadI (xs.getD p 0)))) (begN (xs.drop p) (leadI (xs.getD p 0)) - 1), p, begN (xs.drop p) (leadI (xs.getD p 0)), p + begN (xs.drop p) (leadI (xs.getD p 0)), false)
  else (65533, p, begN (xs.drop p) (leadI (xs.getD p 0)), min (p + begN (xs.drop p) (leadI (xs.getD p 0)) + 1 : Int) xs.length, true)
theorem partG_at (xs : List Int) (p : Nat) (x : Int) (hx : x = xs.getD p 0) : partG xs p =
  if leadI x = 0 then (65533, (p : Int), 1, (p : Int) + 1, true) else
  if (begN (xs.drop p) (leadI x) : Int) = leadI x then (valF ((xs.drop p).take (begN (xs.drop p) (leadI x))) (begN (xs.drop p) (leadI x) - 1), (p : Int), (begN (xs.drop p) (leadI x) : Int), (p : Int) + begN (xs.drop p) (leadI x), false)
  else (65533, (p : Int), (begN (xs.drop p) (leadI x) : Int), min (p + begN (xs.drop p) (leadI x) + 1 : Int) xs.length, true) := by subst hx; rfl
theorem held_cut {k : IntKind} {w : World} {b off n cap : Nat} {xs : List Int} (h : Held k w (.slice (some ⟨b, off, none⟩) n cap) xs) (i j : Nat) (hb : b < w.heap.size) (hj : i + j ≤ xs.length) (c : Nat) : Held k w (.slice (some ⟨b, off + i, none⟩) j c) ((xs.drop i).take j) := by
  have hl : ((xs.drop i).take j).length = j := by simp; omega
  have := h.spots
  rw [show (Value.slice (some ⟨b, off + i, none⟩) j c) = .slice (some ⟨b, off + i, none⟩) ((xs.drop i).take j).length c by rw [hl]]
  refine held_at hb fun q hq => ?_
  rw [hl] at hq
  obtain ⟨b', off', e, _, hc⟩ := this (i + q) (by omega)
  cases e
  rw [Nat.add_assoc, hc]
  simp [List.getD, List.getElem?_take, hq]
theorem held_drop {k : IntKind} {w : World} {b off n cap : Nat} {xs : List Int} (h : Held k w (.slice (some ⟨b, off, none⟩) n cap) xs) (i : Nat) (hb : b < w.heap.size) (hj : i ≤ xs.length) (c : Nat) : Held k w (.slice (some ⟨b, off + i, none⟩) (xs.length - i) c) (xs.drop i) := by
  have := held_cut h i (xs.length - i) hb (by omega) c
  rwa [List.take_of_length_le (by simp)] at this
theorem drop_in {xs : List Int} (hr : ∀ i, i < xs.length → 0 ≤ xs.getD i 0 ∧ xs.getD i 0 ≤ 255) (p : Nat) : ∀ i, i < (xs.drop p).length → 0 ≤ (xs.drop p).getD i 0 ∧ (xs.drop p).getD i 0 ≤ 255 := by
  intro i hi
  have := hr (p + i) (by simp at hi; omega)
  simpa [List.getD] using this
theorem take_in {xs : List Int} (hr : ∀ i, i < xs.length → 0 ≤ xs.getD i 0 ∧ xs.getD i 0 ≤ 255) (p : Nat) : ∀ i, i < (xs.take p).length → 0 ≤ (xs.take p).getD i 0 ∧ (xs.take p).getD i 0 ≤ 255 := by
  intro i hi
  have hi2 : i < p ∧ i < xs.length := by simp at hi; omega
  have := hr i hi2.2
  simpa [List.getD, List.getElem?_take, hi2.1] using this
theorem capOk_of {ao : Option Addr} {n c : Nat} (h : n ≤ c) : CapOk (.slice ao n c) := fun _ _ _ e => by cases e; exact h
theorem five_below {w W : World} (hl : Below w.heap.size w W) (g : Nat) (hg : w.heap.size ≤ g) (x y z u t : Value) :
    Below w.heap.size w (((((W.setCell ⟨g, 0, none⟩ x).setCell ⟨g, 1, none⟩ y).setCell ⟨g, 2, none⟩ z).setCell ⟨g, 3, none⟩ u).setCell ⟨g, 4, none⟩ t) :=
  hl.trans (((((((But.refl g W.heap.size W).set 0 x).set 1 y).set 2 z).set 3 u).set 4 t).below (B' := w.heap.size) hl.size hg)
set_option maxRecDepth 100000 in
set_option maxHeartbeats 1000000 in
theorem part_any (v : Value) (xs : List Int) (p : Nat) (w : World) (hv : Held .u8 w v xs) (hcp : CapOk v) (hp : p < xs.length) (hm : xs.length ≤ 1000000000) (hr : ∀ i, i < xs.length → 0 ≤ xs.getD i 0 ∧ xs.getD i 0 ≤ 255) :
    Calls Try.prog 68 #[v, .int .i64 p] w (Gives w (gotV (partG xs p))) := by
  obtain ⟨ao, cap, rfl, hc⟩ := hv.view
  have hcap : xs.length ≤ cap := hcp _ _ _ rfl
  obtain ⟨b, off, rfl, hb, hcx⟩ := hc p hp
  obtain ⟨r0, r1⟩ := hr p hp
  have hbl := begN_le (xs.drop p) (leadI (xs.getD p 0)) (by simp; omega)
  have hdl : (xs.drop p).length = xs.length - p := by simp
  rw [hdl] at hbl
  obtain ⟨x, hx⟩ : ∃ x, x = xs.getD p 0 := ⟨_, rfl⟩
  have hg := partG_at xs p x hx
  rw [← hx] at hcx r0 r1 hbl
  obtain ⟨G, hG⟩ : ∃ G, G = partG xs p := ⟨_, rfl⟩
  rw [← hG] at hg ⊢
  have HVV := Lib.hid hv
  have HR := Lib.hid hr
  have HGG := Lib.hid hg
  have HB := Lib.hid hb
  have hcx := hcx
  have hk := Has.new w [Value.int .i32 0, .int .i64 0, .int .i64 0, .int .i64 0, .bool false] 32
  have hl0 := (Below.refl w.heap.size w).alloc (Nat.le_refl _) (.cells [Value.int .i32 0, .int .i64 0, .int .i64 0, .int .i64 0, .bool false].toArray 32)
  have hv1 := hv.below ((Below.refl w.heap.size w).alloc (Nat.le_refl _) (.cells [Value.int .i32 0, .int .i64 0, .int .i64 0, .int .i64 0, .bool false].toArray 32))
  have hcx1 := (hl0.cell (p := ⟨b, off + p, none⟩) hb).trans hcx
  obtain ⟨W, hW⟩ : ∃ W, W = w.alloc (.cells [Value.int .i32 0, .int .i64 0, .int .i64 0, .int .i64 0, .bool false].toArray 32) := ⟨_, rfl⟩
  rw [← hW] at hk hl0 hv1 hcx1
  have E1 : w.alloc (.cells #[Value.int .i32 0, .int .i64 0, .int .i64 0, .int .i64 0, .bool false] 32) = W := hW.symm
  have HE1 := Lib.hid E1
  have k0 := hk.cell 0 _ rfl
  have k1 := hk.cell 1 _ rfl
  have k2 := hk.cell 2 _ rfl
  have k3 := hk.cell 3 _ rfl
  have k4 := hk.cell 4 _ rfl
  have g0 := hk.free 0
  have g1 := hk.free 1
  have g2 := hk.free 2
  have g3 := hk.free 3
  have g4 := hk.free 4
  have HK := Lib.hid hk
  have HV1 := Lib.hid hv1
  have HX := Lib.hid hx
  have hbW := hl0.size
  have HL0 := Lib.hid hl0
  have HBL := Lib.hid hbl
  clear hv hcp hc hr hx hG hg hk hl0 hW hv1 hcx E1 hbl hdl
  go_enter Try.func68, Try.ntmps68
  go_wp2_with fail
  rw [HE1.out]
  go_wp2_with fail
  refine (lead_any x _ r0 r1).mono ?_
  rintro e w' ⟨rfl, rfl⟩
  have hlx := lead_cases x
  obtain ⟨lv, hlv⟩ : ∃ lv, lv = leadI x := ⟨_, rfl⟩
  rw [← hlv] at HGG HBL hlx ⊢
  have hl4 : 0 ≤ lv ∧ lv ≤ 4 := by omega
  clear hlx hlv
  by_cases hz : lv = 0
  · have t1 : (lv == 0) = true := by simp [hz]
    have hG0 := HGG.out
    rw [if_pos hz] at hG0
    have HG0 := Lib.hid hG0
    clear hG0 hz
    go_wp2
    exact bodyPost_ret (v := .agg #[.int .i32 65533, .int .i64 p, .int .i64 1, .int .i64 (p + 1), .bool true]) (by simp [results, Try.results68, go_sem, k0, k1, k2, k3, k4]) rfl ⟨by rw [HG0.out]; rfl, five_below HL0.out _ (Nat.le_refl _) _ _ _ _ _⟩
  · have t1 : (lv == 0) = false := by simp [hz]
    have hG0 := HGG.out
    rw [if_neg hz] at hG0
    have HG0 := Lib.hid hG0
    have q0 : ¬ (cap = p) := by omega
    have q1 : ¬ (cap < xs.length) := by omega
    have q2 : ¬ (xs.length < p) := by omega
    clear hG0 hz HGG
    have hbW2 : b < W.heap.size := by have := HB.out; omega
    have hdr := held_drop HV1.out p hbW2 (by omega) (cap - p)
    have HDR := Lib.hid hdr
    have HRD := Lib.hid (drop_in HR.out p)
    have hdl : 0 < (xs.drop p).length := by simp; omega
    have HDL := Lib.hid hdl
    clear hdr hdl
    go_wp2_with fail
    refine (begun_any _ (xs.drop p) lv _ HDR.out HDL.out (by omega) HRD.out).mono ?_
    rintro e w' ⟨rfl, rfl⟩
    obtain ⟨n, hn⟩ : ∃ n, n = begN (xs.drop p) lv := ⟨_, rfl⟩
    rw [← hn] at HG0 HBL ⊢
    obtain ⟨hn1, hn2, hn3⟩ := HBL.out
    have q3 : ¬ (cap < p + n) := by omega
    have q4 : ¬ (p + n < p) := by omega
    have q5 : ¬ ((p : Int) + (n : Int) < p) := by omega
    have q6 : ¬ ((cap : Int) < (p : Int) + n) := by omega
    clear hn
    by_cases hq : (n : Int) = lv
    · have t2 : ((n : Int) == lv) = true := by simp [hq]
      have hG1 := HG0.out
      rw [if_pos hq] at hG1
      have HG1 := Lib.hid hG1
      have hct := held_cut HV1.out p n hbW2 (by omega) (cap - p)
      have HCT := Lib.hid hct
      have htl : ((xs.drop p).take n).length = n := by simp; omega
      have HTL := Lib.hid htl
      have HRT := Lib.hid (take_in HRD.out n)
      clear hG1 hq hct htl HG0
      go_wp2_with fail
      refine (value_any _ ((xs.drop p).take n) _ HCT.out (capOk_of (by omega)) (by have := HTL.out; omega) (by have := HTL.out; omega) HRT.out).mono ?_
      rintro e w' ⟨rfl, rfl⟩
      rw [HTL.out]
      obtain ⟨V, hV⟩ : ∃ V, V = valF ((xs.drop p).take n) (n - 1) := ⟨_, rfl⟩
      rw [← hV] at HG1 ⊢
      clear hV
      go_wp2
      exact bodyPost_ret (v := .agg #[.int .i32 V, .int .i64 p, .int .i64 n, .int .i64 (p + n), .bool false]) (by simp [results, Try.results68, go_sem, k0, k1, k2, k3, k4]) rfl ⟨by rw [HG1.out]; rfl, five_below HL0.out _ (Nat.le_refl _) _ _ _ _ _⟩
    · have t2 : ((n : Int) == lv) = false := by simp [hq]
      have hG1 := HG0.out
      rw [if_neg hq] at hG1
      have HG1 := Lib.hid hG1
      clear hG1 hq HG0
      rcases (by omega : (p : Int) + n + 1 < xs.length ∨ (p : Int) + n + 1 = xs.length ∨ (xs.length : Int) < p + n + 1) with hmn | hmn | hmn
      · have hmv : min ((p : Int) + n + 1) xs.length = (p : Int) + n + 1 := by omega
        rw [hmv] at HG1
        clear hmv
        go_wp2
        exact bodyPost_ret (v := .agg #[.int .i32 65533, .int .i64 p, .int .i64 n, .int .i64 ((p : Int) + n + 1), .bool true]) (by simp [results, Try.results68, go_sem, k0, k1, k2, k3, k4]) rfl ⟨by rw [HG1.out]; rfl, five_below HL0.out _ (Nat.le_refl _) _ _ _ _ _⟩
      · have hmv : min ((p : Int) + n + 1) xs.length = (xs.length : Int) := by omega
        rw [hmv] at HG1
        clear hmv
        go_wp2
        exact bodyPost_ret (v := .agg #[.int .i32 65533, .int .i64 p, .int .i64 n, .int .i64 ((xs.length : Int)), .bool true]) (by simp [results, Try.results68, go_sem, k0, k1, k2, k3, k4]) rfl ⟨by rw [HG1.out]; rfl, five_below HL0.out _ (Nat.le_refl _) _ _ _ _ _⟩
      · have hmv : min ((p : Int) + n + 1) xs.length = (xs.length : Int) := by omega
        rw [hmv] at HG1
        clear hmv
        go_wp2
        exact bodyPost_ret (v := .agg #[.int .i32 65533, .int .i64 p, .int .i64 n, .int .i64 ((xs.length : Int)), .bool true]) (by simp [results, Try.results68, go_sem, k0, k1, k2, k3, k4]) rfl ⟨by rw [HG1.out]; rfl, five_below HL0.out _ (Nat.le_refl _) _ _ _ _ _⟩
end Go.Proofs.Ytgoeacmpphmnoaa
