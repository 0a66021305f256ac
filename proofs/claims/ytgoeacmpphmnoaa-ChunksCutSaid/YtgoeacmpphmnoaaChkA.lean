/- Pieces of bytes: rows of rows; slices.Sort of ints and bytes.Clone at rows of the call's own. -/
import Derived.Test.YtgoeacmpphmnoaaSpanM
import Derived.Test.YtgoeacmpphmnoaaUallQ
namespace Go.Proofs.Ytgoeacmpphmnoaa
open Go.RowKit Go.ChangeShapes Go.WideShapes
open Go.Sort Go.Lib
theorem take_putI (k : IntKind) (F : List Int) (cur : Array Value) (h : F.length ≤ cur.size) : (putCells (Value.int k) 0 F.toArray cur).toList.take F.length = F.map (Value.int k) := by
  apply List.ext_getElem?
  intro j
  by_cases hj : j < F.length
  · rw [List.getElem?_take_of_lt hj, Array.getElem?_toList]
    have : j < cur.size := by omega
    simp [putCells, hj, this]
  · rw [List.getElem?_take_eq_none (by omega), List.getElem?_eq_none (by simp; omega)]
theorem block_putI {k : IntKind} {w : World} {g m e : Nat} {os : Array Obj} {cur : Array Value} (F : Array Int) (hb : w.heap[g]? = some (.cells cur e (0, 0))) : (grow (putRow (Value.int k) (Sort.ahead w m) g 0 F) os).heap[g]? = some (.cells (putCells (Value.int k) 0 F cur) e (0, 0)) := by
  have hg := (Array.getElem?_eq_some_iff.1 hb).1
  rw [heap_grow_old _ _ (by simpa using hg)]
  simp [putRow, mapBlock, Sort.ahead, Array.getElem?_modify, onCells, hb]
theorem but_putI {k : IntKind} {w : World} {g m : Nat} {os : Array Obj} (F : Array Int) : But g w.heap.size w (grow (putRow (Value.int k) (Sort.ahead w m) g 0 F) os) := by
  refine ⟨rfl, rfl, rfl, by simp, fun j hk hne => ?_⟩
  rw [heap_grow_old _ _ (by simpa using hk)]
  simp [putRow, mapBlock, Sort.ahead, Array.getElem?_modify, Ne.symm hne]
def isortL (l : List Int) : List Int := l.mergeSort fun x y => decide (x ≤ y)
theorem isort_len (l : List Int) : (isortL l).length = l.length := by unfold isortL; simp
def ISortOk (w : World) (B : Nat) (v : Value) (n : Nat) (l : List Int) (e : Ending) (w' : World) : Prop := e = .returned (.tuple #[]) ∧ w'.ownsRow B 3 1 v n ((isortL l).map (Value.int .i64)) ∧ Below B w w' ∧ ∀ g, g < w.heap.size → v.ownBlock ≠ some g → w'.heap[g]? = w.heap[g]?
theorem isort_any (v : Value) (l : List Int) (w : World) (B n : Nat) (hn : n = l.length) (hown : w.ownsRow B 3 1 v n (l.map (Value.int .i64))) (hB : B ≤ w.heap.size) (hl : n ≤ 1000000) :
    Calls Try.prog 74 #[v] w (ISortOk w B v n l) := by
  rcases hown.2 with ⟨rfl, h0⟩ | ⟨g, cap, cur, rfl, hBg, hh, hnc, hcap, hsz, _⟩
  · have : l = [] := List.eq_nil_of_length_eq_zero (by omega)
    subst this h0
    refine Calls.mono (slices_Sort_int_none none 0 w) ?_
    rintro e w' ⟨rfl, rfl⟩
    exact ⟨rfl, by simpa [isortL] using hown, Below.refl _ _, fun _ _ _ => rfl⟩
  · have hgs : g < w.heap.size := (hown.lt g rfl).2
    have hH : Holds (Value.int .i64) w g 0 l.toArray := by
      intro j hj
      have hj' : j < l.length := by simpa using hj
      refine ⟨?_, by rw [Nat.zero_add]; exact hown.frozenAt j⟩
      rw [Nat.zero_add, hown.cellAt j (by omega)]
      simp [List.getElem?_eq_getElem hj', hj']
    have hcon := slices_Sort_int g 0 cap l w hH hgs (by omega)
    rw [← hn] at hcon
    refine Calls.mono hcon ?_
    rintro e w' ⟨rfl, m, os, rfl⟩
    have hll : (isortL l).length = n := by rw [isort_len, hn]
    refine ⟨rfl, ⟨by simp [hll], .inr ⟨g, cap, _, rfl, hBg, block_putI _ hh, hnc, hcap, by simp [putCells, hsz], ?_⟩⟩, (but_putI _).below (by omega) hBg, fun k hk hne => (but_putI (w := w) (g := g) (m := m) (os := os) _).block k hk (fun e => hne (by subst e; rfl))⟩
    have := take_putI .i64 (isortL l) cur (by rw [hll, hsz]; omega)
    rw [hll] at this
    simpa [isortL] using this
theorem bclone_any (v : Value) (xs : List Int) (w : World) (hv : Held .u8 w v xs) (hl : xs.length ≤ 1000000) :
    Calls Try.prog 75 #[v] w fun e w' => ∃ v', e = .returned v' ∧ w'.ownsRow w.heap.size 5 1 v' xs.length (xs.map (Value.int .u8)) ∧ Below w.heap.size w w' := by
  obtain ⟨ao, cap, rfl, hn, hc⟩ := hv
  cases ao with
  | none =>
    obtain ⟨rfl, _⟩ := hn rfl
    refine Calls.mono (bytes_Clone_nil _ _ w) ?_
    rintro e w' ⟨rfl, rfl⟩
    exact ⟨_, rfl, World.ownsRow_nil _ _ _ _, Below.refl _ _⟩
  | some a =>
    refine Calls.mono (bytes_Clone_at a xs.length cap xs w rfl (by omega) (fun i hi => ?_)) ?_
    · obtain ⟨b, off, e, _, h1⟩ := hc i hi
      cases e
      rw [Addr.add_lit]
      exact h1
    · rintro e w' ⟨v', rfl, h1, _, h2⟩
      exact ⟨v', rfl, h1, h2⟩
/-- Blocks of other types than rows of bytes stay. -/
def KeepB (w w' : World) : Prop := ∀ g C ty, ty ≠ 22 → Has w g C ty → Has w' g C ty
theorem KeepB.refl (w : World) : KeepB w w := fun _ _ _ _ h => h
theorem KeepB.trans {a b c : World} (h : KeepB a b) (k : KeepB b c) : KeepB a c := fun g C ty hn hh => k g C ty hn (h g C ty hn hh)
theorem KeepB.alloc (w : World) (o : Obj) : KeepB w (w.alloc o) := fun _ _ _ _ h => h.alloc o
theorem KeepB.ofBelow {w w' : World} (h : Below w.heap.size w w') : KeepB w w' := fun _ _ _ _ hh => hh.below h hh.lt
theorem keepB_of {w w' : World} {B n : Nat} {v : Value} {xs : List Value} (hown : w.ownsRow B 22 1 v n xs) (hk : ∀ g, g < w.heap.size → v.ownBlock ≠ some g → w'.heap[g]? = w.heap[g]?) : KeepB w w' := by
  intro g C ty hne h
  refine (hk g h.lt fun e => ?_).trans h
  rcases hown.2 with ⟨rfl, _⟩ | ⟨g', cap, cur, rfl, _, hh, _⟩
  · cases e
  · have e2 : some g' = some g := e
    cases e2
    unfold Has at h
    rw [hh] at h
    cases h
    exact hne rfl
theorem keepB_new {w w' : World} {B n : Nat} {v : Value} {xs C0 : List Value} (hown : w.ownsRow B 22 1 v n xs) (hk : ∀ g, g < w.heap.size → v.ownBlock ≠ some g → w'.heap[g]? = w.heap[g]?) : KeepB (w.alloc (.cells C0.toArray 22)) w' := by
  intro g C ty hne h
  have hlt := h.lt
  rw [World.size_alloc] at hlt
  rcases Nat.lt_or_ge g w.heap.size with hg | hg
  · exact keepB_of hown hk g C ty hne ((((Below.refl w.heap.size w).alloc (Nat.le_refl _) (.cells C0.toArray 22)).block g hg).symm.trans h)
  · obtain rfl : g = w.heap.size := by omega
    have h2 := Has.new w C0 22
    unfold Has at h h2
    rw [h2] at h
    cases h
    exact absurd rfl hne
theorem own_keepB {w w' : World} {B e size n : Nat} {v : Value} {xs : List Value} (h : w.ownsRow B e size v n xs) (he : e ≠ 22) (hk : KeepB w w') : w'.ownsRow B e size v n xs := by
  refine ⟨h.1, ?_⟩
  rcases h.2 with hv | ⟨g, cap, cur, rfl, hg, hh, hrest⟩
  · exact .inl hv
  · have h1 : Has w g cur.toList e := by unfold Has; rw [hh]
    have h2 := hk g _ e he h1
    unfold Has at h2
    exact .inr ⟨g, cap, cur, rfl, hg, by rw [h2], hrest⟩
/-- A row of rows of bytes, all of the call's own. -/
def OwnB (w : World) (B : Nat) (v : Value) (n : Nat) (L : List (List Int)) : Prop :=
  ∃ us : List Value, w.ownsRow B 22 1 v n us ∧ L.length = n ∧ ∀ i, i < n → ∃ u, us[i]? = some u ∧ w.ownsRow 0 5 1 u (L.getD i []).length ((L.getD i []).map (Value.int .u8))
def HeldB (w : World) (v : Value) (L : List (List Int)) : Prop :=
  ∃ ao cap, v = .slice ao L.length cap ∧ ∀ i, i < L.length → ∃ b off u, ao = some ⟨b, off, none⟩ ∧ b < w.heap.size ∧ w.cell? ⟨b, off + i, none⟩ = some u ∧ Held .u8 w u (L.getD i [])
theorem ownB_held {w : World} {B : Nat} {v : Value} {n : Nat} {L : List (List Int)} (h : OwnB w B v n L) : HeldB w v L := by
  obtain ⟨us, hown, hl, hu⟩ := h
  subst hl
  have hlen := hown.1
  rcases hown.2 with ⟨rfl, h0⟩ | ⟨g, cap, cur, rfl, hBg, hh, _⟩
  · exact ⟨none, 0, by rw [h0], fun i hi => by omega⟩
  · refine ⟨some ⟨g, 0, none⟩, cap, rfl, fun i hi => ?_⟩
    obtain ⟨u, h1, h2⟩ := hu i hi
    refine ⟨g, 0, u, rfl, (Array.getElem?_eq_some_iff.1 hh).1, ?_, held_of_owns h2⟩
    have := hown.cells (g := g) rfl i u (by simpa using h1)
    rw [Addr.add_lit] at this
    simpa using this
theorem HeldB.below {w w' : World} {v : Value} {L : List (List Int)} (h : HeldB w v L) (hb : Below w.heap.size w w') : HeldB w' v L := by
  obtain ⟨ao, cap, rfl, hc⟩ := h
  refine ⟨ao, cap, rfl, fun i hi => ?_⟩
  obtain ⟨b, off, u, rfl, hlt, h1, h2⟩ := hc i hi
  exact ⟨b, off, u, rfl, by have := hb.size; omega, (hb.cell (p := ⟨b, off + i, none⟩) hlt).trans h1, h2.below hb⟩
theorem HeldB.len {w : World} {v : Value} {L : List (List Int)} (h : HeldB w v L) : ∃ ao cap, v = .slice ao L.length cap := by
  obtain ⟨ao, cap, rfl, _⟩ := h
  exact ⟨ao, cap, rfl⟩
theorem HeldB.spots {w : World} {ao : Option Addr} {n cap : Nat} {L : List (List Int)} (h : HeldB w (.slice ao n cap) L) : ∀ i, i < L.length → ∃ b off u, ao = some ⟨b, off, none⟩ ∧ b < w.heap.size ∧ w.cell? ⟨b, off + i, none⟩ = some u ∧ Held .u8 w u (L.getD i []) := by
  obtain ⟨ao', cap', e, hc⟩ := h
  cases e
  exact hc
theorem info_sl : (Try.prog.info? 22).map (fun i => (i.zero, i.size, i.bytes)) = some (some (.slice none 0 0), 1, 24) := by kernel_rfl
theorem OwnB.nil (w : World) (B : Nat) (v : Value) (h : w.ownsRow B 22 1 v 0 []) : OwnB w B v 0 [] := ⟨[], h, rfl, fun i hi => absurd hi (Nat.not_lt_zero _)⟩
/-- A piece put behind others. -/
theorem OwnB.snoc {w w' : World} {B n : Nat} {v' u : Value} {us : List Value} {L : List (List Int)} {xs : List Int} (hl : L.length = n) (hu : ∀ i, i < n → ∃ u, us[i]? = some u ∧ w.ownsRow 0 5 1 u (L.getD i []).length ((L.getD i []).map (Value.int .u8))) (hus : us.length = n)
    (hx : w.ownsRow 0 5 1 u xs.length (xs.map (Value.int .u8))) (hown : w'.ownsRow B 22 1 v' (n + 1) (us ++ [u])) (hk : KeepB w w') : OwnB w' B v' (n + 1) (L ++ [xs]) := by
  refine ⟨us ++ [u], hown, by simp [hl], fun i hi => ?_⟩
  rcases Nat.lt_or_ge i n with h | h
  · obtain ⟨u', h1, h2⟩ := hu i h
    refine ⟨u', by rw [List.getElem?_append_left (by omega)]; exact h1, ?_⟩
    rw [show (L ++ [xs]).getD i [] = L.getD i [] by simp [List.getD, List.getElem?_append, show i < L.length by omega]]
    exact own_keepB h2 (by decide) hk
  · obtain rfl : i = n := by omega
    refine ⟨u, by rw [List.getElem?_append_right (by omega), hus]; simp, ?_⟩
    rw [show (L ++ [xs]).getD i [] = xs by simp [List.getD, List.getElem?_append, hl]]
    exact own_keepB hx (by decide) hk
/- Pieces. -/
def clampI (n : Nat) (x : Int) : Int := min (max x 0) n
def placesL (n : Nat) (at_ : List Int) : List Int := isortL (at_.map (clampI n)) ++ [(n : Int)]
def pieceI (b : List Int) (f p : Int) : List Int := (b.drop f.toNat).take (p.toNat - f.toNat)
def cutP (b : List Int) (f : Int) : List Int → List (List Int)
  | [] => []
  | p :: ps => pieceI b f p :: cutP b p ps
def cutB (b at_ : List Int) : List (List Int) := cutP b 0 (placesL b.length at_)
def prevI (f : Int) (P : List Int) (i : Nat) : Int := if i = 0 then f else P.getD (i - 1) 0
theorem cutP_len (b : List Int) : ∀ (P : List Int) (f : Int), (cutP b f P).length = P.length
  | [], _ => rfl
  | p :: P, f => by simp [cutP, cutP_len b P]
theorem cutP_at (b : List Int) : ∀ (P : List Int) (f : Int) (i : Nat), i < P.length → (cutP b f P).getD i [] = pieceI b (prevI f P i) (P.getD i 0)
  | [], _, i, h => absurd h (Nat.not_lt_zero _)
  | p :: P, f, 0, _ => rfl
  | p :: P, f, i + 1, h => by
    have := cutP_at b P p i (by simpa using h)
    show (cutP b p P).getD i [] = pieceI b ((p :: P).getD i 0) (P.getD i 0)
    rw [this]
    unfold prevI
    by_cases h0 : i = 0
    · subst h0; rfl
    · obtain ⟨j, rfl⟩ : ∃ j, i = j + 1 := ⟨i - 1, by omega⟩
      rw [if_neg (by omega)]
      rfl
theorem places_len (n : Nat) (at_ : List Int) : (placesL n at_).length = at_.length + 1 := by unfold placesL; simp [isort_len]
theorem clamp_bd (n : Nat) (x : Int) : 0 ≤ clampI n x ∧ clampI n x ≤ n := by unfold clampI; omega
theorem places_bd (n : Nat) (at_ : List Int) : ∀ x ∈ placesL n at_, 0 ≤ x ∧ x ≤ n := by
  intro x hx
  unfold placesL at hx
  rcases List.mem_append.1 hx with h | h
  · unfold isortL at h
    rw [List.mem_mergeSort, List.mem_map] at h
    obtain ⟨y, _, rfl⟩ := h
    exact clamp_bd n y
  · simp at h
    omega
theorem places_up (n : Nat) (at_ : List Int) : (placesL n at_).Pairwise (· ≤ ·) := by
  unfold placesL
  rw [List.pairwise_append]
  refine ⟨?_, by simp, fun a ha b hb => ?_⟩
  · have := List.pairwise_mergeSort (le := fun x y : Int => decide (x ≤ y)) (fun a b c h1 h2 => by simp at *; omega) (fun a b => by simp; omega) (at_.map (clampI n))
    unfold isortL
    exact this.imp (fun h => by simpa using h)
  · have := (places_bd n at_ a (by unfold placesL; exact List.mem_append.2 (.inl ha))).2
    simp at hb
    omega
theorem places_at (n : Nat) (at_ : List Int) (i : Nat) (hi : i < (placesL n at_).length) : 0 ≤ prevI 0 (placesL n at_) i ∧ prevI 0 (placesL n at_) i ≤ (placesL n at_).getD i 0 ∧ (placesL n at_).getD i 0 ≤ n := by
  have hg : ∀ j, j < (placesL n at_).length → (placesL n at_).getD j 0 ∈ placesL n at_ := fun j hj => by
    simp only [List.getD, List.getElem?_eq_getElem hj, Option.getD_some]; exact List.getElem_mem hj
  have h1 := places_bd n at_ _ (hg i hi)
  unfold prevI
  by_cases h0 : i = 0
  · rw [if_pos h0]; omega
  · rw [if_neg h0]
    have h2 := places_bd n at_ _ (hg (i - 1) (by omega))
    have h3 := (List.pairwise_iff_getElem.1 (places_up n at_)) (i - 1) i (by omega) hi (by omega)
    simp only [List.getD, List.getElem?_eq_getElem hi, List.getElem?_eq_getElem (show i - 1 < (placesL n at_).length by omega), Option.getD_some] at h1 h2 ⊢
    omega
theorem piece_len {b : List Int} {f p : Int} (h0 : 0 ≤ f) (h1 : f ≤ p) (h2 : p ≤ b.length) : (pieceI b f p).length = p.toNat - f.toNat := by unfold pieceI; simp; omega
end Go.Proofs.Ytgoeacmpphmnoaa
