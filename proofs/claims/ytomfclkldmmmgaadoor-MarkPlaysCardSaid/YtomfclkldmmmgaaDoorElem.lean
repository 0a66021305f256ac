/- Lists in memory, of whatever elements: how they lie, in which blocks; what keeps them. Of no program. -/
import Derived.Test.YtomfclkldmmmgaaDoorAid
import Derived.Test.YtomfclkldmmmgaaDoorObj
import Derived.Laws.OwnMore
namespace Go.Proofs.YtomfclkldmmmgaaDoor
open Go.RowKit Go.ChangeShapes Go.WideShapes
/-- Blocks that data may lie in. -/
abbrev Zone := Nat → Prop
/-- What lies in the zone is as it was. -/
structure KeepZ (Z : Zone) (w w' : World) : Prop where
  size : w.heap.size ≤ w'.heap.size
  block : ∀ b, b < w.heap.size → Z b → w'.heap[b]? = w.heap[b]?
theorem KeepZ.refl (Z : Zone) (w : World) : KeepZ Z w w := ⟨Nat.le_refl _, fun _ _ _ => rfl⟩
theorem KeepZ.trans {Z : Zone} {a b c : World} (h : KeepZ Z a b) (k : KeepZ Z b c) : KeepZ Z a c :=
  ⟨Nat.le_trans h.size k.size, fun i hi hz => (k.block i (Nat.lt_of_lt_of_le hi h.size) hz).trans (h.block i hi hz)⟩
theorem KeepZ.mono {Z Y : Zone} {w w' : World} (h : KeepZ Z w w') (hz : ∀ b, b < w.heap.size → Y b → Z b) : KeepZ Y w w' := ⟨h.size, fun b hb hy => h.block b hb (hz b hb hy)⟩
theorem KeepZ.below {B : Nat} {w w' : World} (h : Below B w w') : KeepZ (fun b => b < B) w w' := ⟨h.size, fun b _ hz => h.block b hz⟩
theorem KeepZ.all {w w' : World} (h : Below w.heap.size w w') (Z : Zone) : KeepZ Z w w' := ⟨h.size, fun b hb _ => h.block b hb⟩
theorem KeepZ.grown {w w' : World} {row : Option Nat} (h : w.grownBy w' row) : KeepZ (fun b => row ≠ some b) w w' := ⟨h.size, fun b hb hz => h.block b hb (Ne.symm hz)⟩
theorem KeepZ.but {g : Nat} {w w' : World} (h : But g w.heap.size w w') : KeepZ (fun b => b ≠ g) w w' := ⟨h.size, fun b hb hz => h.block b hb hz⟩
theorem KeepZ.cell {Z : Zone} {w w' : World} (h : KeepZ Z w w') {b o : Nat} (hb : b < w.heap.size) (hz : Z b) : w'.cell? ⟨b, o, none⟩ = w.cell? ⟨b, o, none⟩ := World.cell?_of_block (a := ⟨b, o, none⟩) (h.block b hb hz)
theorem KeepZ.has {Z : Zone} {w w' : World} (h : KeepZ Z w w') {g : Nat} {C : List Value} {t : TypeId} (hg : Has w g C t) (hz : Z g) : Has w' g C t := (h.block g hg.lt hz).trans hg
theorem KeepZ.own {Z : Zone} {w w' : World} (h : KeepZ Z w w') {B e size n : Nat} {v : Value} {xs : List Value} (ho : w.ownsRow B e size v n xs) (hz : ∀ b, v.ownBlock = some b → Z b) : w'.ownsRow B e size v n xs := by
  refine ⟨ho.1, ?_⟩
  rcases ho.2 with hn | ⟨g, cap, cur, rfl, hB, hg, rest⟩
  · exact .inl hn
  · exact .inr ⟨g, cap, cur, rfl, hB, (h.block g (Array.getElem?_eq_some_iff.1 hg).1 (hz g rfl)).trans hg, rest⟩
/-- How an element of a list lies in its cells. -/
structure Elem (α : Type) where
  size : Nat
  zero : α
  rep : Zone → World → List Value → α → Prop
  len : ∀ {Z : Zone} {w : World} {C : List Value} {x : α}, rep Z w C x → C.length = size
  one : ∀ {Z : Zone} {w : World} {C : List Value} {x : α}, rep Z w C x → ∀ u ∈ C, u.oneCell' = true
  keep : ∀ {Z Y : Zone} {w w' : World} {C : List Value} {x : α}, KeepZ Z w w' → (∀ b, b < w.heap.size → Z b → Y b) → rep Z w C x → rep Y w' C x
/-- The slice value v holds the list L, all of whose memory lies in the zone. -/
def HeldE {α : Type} (E : Elem α) (Z : Zone) (w : World) (v : Value) (L : List α) : Prop :=
  ∃ ao cap, v = .slice ao L.length cap ∧ L.length ≤ cap ∧ cap ≤ maxLen ∧ (ao = none → L = [] ∧ cap = 0) ∧
    ∀ i, i < L.length → ∃ b off, ao = some ⟨b, off, none⟩ ∧ b < w.heap.size ∧ Z b ∧ ∃ C, (∀ j, j < E.size → w.cell? ⟨b, off + i * E.size + j, none⟩ = C[j]?) ∧ E.rep Z w C (L.getD i E.zero)
section
variable {α : Type} {E : Elem α} {Z Y : Zone} {w w' : World} {v u : Value} {L M : List α}
theorem HeldE.nil (E : Elem α) (Z : Zone) (w : World) : HeldE E Z w (.slice none 0 0) [] := ⟨none, 0, rfl, Nat.le_refl _, Nat.zero_le _, fun _ => ⟨rfl, rfl⟩, fun i hi => absurd hi (Nat.not_lt_zero _)⟩
theorem HeldE.keep (h : HeldE E Z w v L) (hk : KeepZ Z w w') (hy : ∀ b, b < w.heap.size → Z b → Y b) : HeldE E Y w' v L := by
  obtain ⟨ao, cap, rfl, hl, hm, hn, hc⟩ := h
  refine ⟨ao, cap, rfl, hl, hm, hn, fun i hi => ?_⟩
  obtain ⟨b, off, rfl, hb, hz, C, hC, hr⟩ := hc i hi
  exact ⟨b, off, rfl, Nat.lt_of_lt_of_le hb hk.size, hy b hb hz, C, fun j hj => (hk.cell hb hz).trans (hC j hj), E.keep hk hy hr⟩
theorem HeldE.kept (h : HeldE E Z w v L) (hk : KeepZ Z w w') : HeldE E Z w' v L := h.keep hk fun _ _ hz => hz
theorem HeldE.below (h : HeldE E Z w v L) (hb : Below w.heap.size w w') : HeldE E Z w' v L := h.kept (.all hb Z)
theorem HeldE.zone (h : HeldE E Z w v L) (hy : ∀ b, b < w.heap.size → Z b → Y b) : HeldE E Y w v L := h.keep (.refl _ _) hy
theorem HeldE.len (h : HeldE E Z w v L) : ∃ ao cap, v = .slice ao L.length cap := by
  obtain ⟨ao, cap, rfl, _⟩ := h
  exact ⟨ao, cap, rfl⟩
theorem HeldE.max (h : HeldE E Z w v L) : L.length ≤ 9223372036854775807 := by
  obtain ⟨ao, cap, rfl, hl, hm, _⟩ := h
  unfold maxLen at hm
  omega
theorem HeldE.spots {ao : Option Addr} {n cap : Nat} (h : HeldE E Z w (.slice ao n cap) L) : n = L.length ∧ n ≤ cap ∧ ∀ i, i < L.length → ∃ b off, ao = some ⟨b, off, none⟩ ∧ b < w.heap.size ∧ Z b ∧ ∃ C, (∀ j, j < E.size → w.cell? ⟨b, off + i * E.size + j, none⟩ = C[j]?) ∧ E.rep Z w C (L.getD i E.zero) := by
  obtain ⟨ao', cap', he, hl, _, _, hc⟩ := h
  cases he
  exact ⟨rfl, hl, hc⟩
theorem HeldE.nilL {n cap : Nat} (h : HeldE E Z w (.slice none n cap) L) : L = [] ∧ n = 0 ∧ cap = 0 := by
  obtain ⟨ao', cap', he, hl, _, hn, hc⟩ := h
  cases he
  obtain ⟨rfl, rfl⟩ := hn rfl
  exact ⟨rfl, rfl, rfl⟩
/-- A part of a slice. -/
theorem HeldE.part {ao : Option Addr} {n cap : Nat} (h : HeldE E Z w (.slice ao n cap) L) (lo hi : Nat) (h1 : lo ≤ hi) (h2 : hi ≤ L.length) :
    ∀ a' cap', (ao = none → a' = none ∧ cap' = 0) → (∀ b off, ao = some ⟨b, off, none⟩ → lo < hi → a' = some ⟨b, off + lo * E.size, none⟩) → (∀ a, ao = some a → a' ≠ none) → hi - lo ≤ cap' → cap' ≤ maxLen → HeldE E Z w (.slice a' (hi - lo) cap') ((L.drop lo).take (hi - lo)) := by
  intro a' cap' hn hs hne hc hm
  obtain ⟨_, _, hsp⟩ := h.spots
  have hlen : ((L.drop lo).take (hi - lo)).length = hi - lo := by simp; omega
  refine ⟨a', cap', by rw [hlen], by rw [hlen]; exact hc, hm, fun he => ?_, fun i hi' => ?_⟩
  · cases ao with
    | none =>
      obtain ⟨rfl, rfl, rfl⟩ := h.nilL
      exact ⟨by simp, (hn rfl).2⟩
    | some a => exact absurd he (hne a rfl)
  · rw [hlen] at hi'
    obtain ⟨b, off, rfl, hb, hz, C, hC, hr⟩ := hsp (lo + i) (by omega)
    refine ⟨b, off + lo * E.size, hs b off rfl (by omega), hb, hz, C, fun j hj => ?_, ?_⟩
    · rw [← hC j hj, Nat.add_mul, Nat.add_assoc off]
    · rw [show ((L.drop lo).take (hi - lo)).getD i E.zero = L.getD (lo + i) E.zero from by simp [List.getD, List.getElem?_take, hi', List.getElem?_drop]]
      exact hr
end
/-- Integers. -/
def intE (k : IntKind) : Elem Int where
  size := 1
  zero := 0
  rep := fun _ _ C x => C = [.int k x]
  len := by rintro _ _ _ _ rfl; rfl
  one := by
    rintro _ _ _ _ rfl u hu
    simp at hu
    subst hu; rfl
  keep := fun _ _ h => h
def boolE : Elem Bool where
  size := 1
  zero := false
  rep := fun _ _ C x => C = [.bool x]
  len := by rintro _ _ _ _ rfl; rfl
  one := by
    rintro _ _ _ _ rfl u hu
    simp at hu
    subst hu; rfl
  keep := fun _ _ h => h
/-- Slices. -/
def slE {α : Type} (E : Elem α) : Elem (List α) where
  size := 1
  zero := []
  rep := fun Z w C L => ∃ v, C = [v] ∧ HeldE E Z w v L
  len := by rintro _ _ _ _ ⟨v, rfl, _⟩; rfl
  one := by
    rintro _ _ _ _ ⟨v, rfl, h⟩ u hu
    simp at hu
    subst hu
    obtain ⟨ao, cap, rfl, _⟩ := h
    rfl
  keep := by
    rintro _ _ _ _ _ _ hk hy ⟨v, rfl, h⟩
    exact ⟨v, rfl, h.keep hk hy⟩
/-- Structs. -/
def prE {α β : Type} (E : Elem α) (F : Elem β) : Elem (α × β) where
  size := E.size + F.size
  zero := (E.zero, F.zero)
  rep := fun Z w C x => ∃ C1 C2, C = C1 ++ C2 ∧ E.rep Z w C1 x.1 ∧ F.rep Z w C2 x.2
  len := by
    rintro _ _ _ _ ⟨C1, C2, rfl, h1, h2⟩
    rw [List.length_append, E.len h1, F.len h2]
  one := by
    rintro _ _ _ _ ⟨C1, C2, rfl, h1, h2⟩ u hu
    rcases List.mem_append.1 hu with h | h
    · exact E.one h1 u h
    · exact F.one h2 u h
  keep := by
    rintro _ _ _ _ _ _ hk hy ⟨C1, C2, rfl, h1, h2⟩
    exact ⟨C1, C2, rfl, E.keep hk hy h1, F.keep hk hy h2⟩
theorem HeldE.ints {k : IntKind} {Z : Zone} {w : World} {v : Value} {xs : List Int} (h : HeldE (intE k) Z w v xs) : Held k w v xs := by
  obtain ⟨ao, cap, rfl, _, _, hn, hc⟩ := h
  refine ⟨ao, cap, rfl, hn, fun i hi => ?_⟩
  obtain ⟨b, off, rfl, hb, _, C, hC, rfl⟩ := hc i hi
  refine ⟨b, off, rfl, hb, ?_⟩
  have := hC 0 (Nat.lt_succ_self 0)
  simpa [intE] using this
theorem heldE_ints {k : IntKind} {Z : Zone} {w : World} {ao : Option Addr} {n cap : Nat} {xs : List Int} (h : Held k w (.slice ao n cap) xs) (hc : n ≤ cap) (hm : cap ≤ maxLen) (hz : ∀ a, ao = some a → a.block < w.heap.size → Z a.block) : HeldE (intE k) Z w (.slice ao n cap) xs := by
  obtain ⟨ao', cap', he, hn, hcc⟩ := h
  cases he
  refine ⟨ao, cap, rfl, hc, hm, hn, fun i hi => ?_⟩
  obtain ⟨b, off, rfl, hb, h1⟩ := hcc i hi
  refine ⟨b, off, rfl, hb, hz _ rfl hb, [.int k (xs.getD i 0)], fun j hj => ?_, rfl⟩
  have hj0 : j = 0 := by simp [intE] at hj; omega
  subst hj0
  simpa [intE] using h1
/- Rows of the call's own. -/
theorem flat_len {s : Nat} : ∀ {CS : List (List Value)}, (∀ C ∈ CS, C.length = s) → CS.flatten.length = CS.length * s
  | [], _ => by simp
  | C :: CS, h => by
    rw [List.flatten_cons, List.length_append, flat_len (fun D hD => h D (List.mem_cons_of_mem _ hD)), h C (by simp), List.length_cons, Nat.add_mul]
    omega
theorem flat_at {s : Nat} : ∀ {CS : List (List Value)}, (∀ C ∈ CS, C.length = s) → ∀ i j, i < CS.length → j < s → CS.flatten[i * s + j]? = (CS.getD i [])[j]?
  | [], _, i, _, hi, _ => absurd hi (Nat.not_lt_zero _)
  | C :: CS, h, 0, j, _, hj => by
    rw [List.flatten_cons, Nat.zero_mul, Nat.zero_add, List.getElem?_append_left (by rw [h C (by simp)]; exact hj)]
    rfl
  | C :: CS, h, i + 1, j, hi, hj => by
    have := flat_at (fun D hD => h D (List.mem_cons_of_mem _ hD)) i j (by simpa using hi) hj
    rw [List.flatten_cons, List.getElem?_append_right (by rw [h C (by simp), Nat.add_mul]; omega), h C (by simp), show (i + 1) * s + j - s = i * s + j by rw [Nat.add_mul]; omega, this]
    rfl
theorem flat_set {s : Nat} : ∀ {CS : List (List Value)}, (∀ C ∈ CS, C.length = s) → ∀ i j u, i < CS.length → j < s → CS.flatten.set (i * s + j) u = (CS.set i ((CS.getD i []).set j u)).flatten
  | [], _, i, _, _, hi, _ => absurd hi (Nat.not_lt_zero _)
  | C :: CS, h, 0, j, u, _, hj => by
    rw [List.flatten_cons, Nat.zero_mul, Nat.zero_add, List.set_append_left _ _ (by rw [h C (by simp)]; exact hj)]
    rfl
  | C :: CS, h, i + 1, j, u, hi, hj => by
    have := flat_set (fun D hD => h D (List.mem_cons_of_mem _ hD)) i j u (by simpa using hi) hj
    rw [List.flatten_cons, List.set_append_right _ _ (by rw [h C (by simp), Nat.add_mul]; omega), h C (by simp), show (i + 1) * s + j - s = i * s + j by rw [Nat.add_mul]; omega, this]
    rfl
/-- The row v is the call's own (from block B on), and holds L; what its elements lead to lies in the zone, and in no block of the row's own. -/
def OwnE {α : Type} (E : Elem α) (Z : Zone) (w : World) (B : Nat) (ty : TypeId) (v : Value) (L : List α) : Prop :=
  ∃ CS : List (List Value), w.ownsRow B ty E.size v L.length CS.flatten ∧ CS.length = L.length ∧ ∀ i, i < L.length → E.rep (fun b => Z b ∧ v.ownBlock ≠ some b) w (CS.getD i []) (L.getD i E.zero)
section
variable {α : Type} {E : Elem α} {Z Y : Zone} {w w' : World} {v u : Value} {L M : List α} {B : Nat} {ty : TypeId}
theorem own_lens {Z : Zone} {CS : List (List Value)} (hl : CS.length = L.length) (h : ∀ i, i < L.length → E.rep Z w (CS.getD i []) (L.getD i E.zero)) : ∀ C ∈ CS, C.length = E.size := by
  intro C hC
  obtain ⟨i, hi, rfl⟩ := List.getElem_of_mem hC
  have := E.len (h i (by omega))
  rwa [show CS.getD i [] = CS[i] from by simp [List.getD, List.getElem?_eq_getElem hi]] at this
theorem own_ones {Z : Zone} {CS : List (List Value)} (hl : CS.length = L.length) (h : ∀ i, i < L.length → E.rep Z w (CS.getD i []) (L.getD i E.zero)) : ∀ u ∈ CS.flatten, u.oneCell' = true := by
  intro u hu
  obtain ⟨C, hC, hu⟩ := List.mem_flatten.1 hu
  obtain ⟨i, hi, rfl⟩ := List.getElem_of_mem hC
  refine E.one (h i (by omega)) u ?_
  rwa [show CS.getD i [] = CS[i] from by simp [List.getD, List.getElem?_eq_getElem hi]]
theorem OwnE.nil (E : Elem α) (Z : Zone) (w : World) (B : Nat) (ty : TypeId) : OwnE E Z w B ty (.slice none 0 0) [] := ⟨[], World.ownsRow_nil _ _ _ _, rfl, fun i hi => absurd hi (Nat.not_lt_zero _)⟩
theorem OwnE.empty (h : w.ownsRow B ty E.size v 0 []) : OwnE E Z w B ty v [] := ⟨[], h, rfl, fun i hi => absurd hi (Nat.not_lt_zero _)⟩
theorem OwnE.lt (h : OwnE E Z w B ty v L) : ∀ k, v.ownBlock = some k → B ≤ k ∧ k < w.heap.size := by
  obtain ⟨CS, h, _⟩ := h
  exact h.lt
theorem OwnE.keep (h : OwnE E Z w B ty v L) (hk : KeepZ (fun b => Z b ∨ v.ownBlock = some b) w w') (hy : ∀ b, b < w.heap.size → Z b → Y b) : OwnE E Y w' B ty v L := by
  obtain ⟨CS, h1, h2, h3⟩ := h
  refine ⟨CS, hk.own h1 fun b hb => .inr hb, h2, fun i hi => E.keep (hk.mono fun b _ hz => .inl hz.1) (fun b hb hz => ⟨hy b hb hz.1, hz.2⟩) (h3 i hi)⟩
theorem OwnE.below (h : OwnE E Z w B ty v L) (hb : Below w.heap.size w w') : OwnE E Z w' B ty v L := h.keep (.all hb _) fun _ _ hz => hz
theorem OwnE.base (h : OwnE E Z w B ty v L) {B' : Nat} (hb : B' ≤ B) : OwnE E Z w B' ty v L := by
  obtain ⟨CS, ⟨h1, h2⟩, h3, h4⟩ := h
  refine ⟨CS, ⟨h1, ?_⟩, h3, h4⟩
  rcases h2 with h2 | ⟨g, cap, cur, rfl, hB, rest⟩
  · exact .inl h2
  · exact .inr ⟨g, cap, cur, rfl, by omega, rest⟩
theorem OwnE.held (h : OwnE E Z w B ty v L) (hz : ∀ b, B ≤ b → b < w.heap.size → Z b) : HeldE E Z w v L := by
  obtain ⟨CS, h1, h2, h3⟩ := h
  have hls := own_lens h2 h3
  rcases h1.2 with ⟨rfl, h0⟩ | ⟨g, cap, cur, rfl, hB, hg, hn, hmx, _⟩
  · have : L = [] := List.eq_nil_of_length_eq_zero h0
    subst this
    exact HeldE.nil _ _ _
  · refine ⟨some ⟨g, 0, none⟩, cap, rfl, hn, hmx, (fun e => by cases e), fun i hi => ?_⟩
    have hgl := (Array.getElem?_eq_some_iff.1 hg).1
    refine ⟨g, 0, rfl, hgl, hz g hB hgl, CS.getD i [], fun j hj => ?_, E.keep (.refl _ _) (fun b _ h => h.1) (h3 i hi)⟩
    rw [Nat.zero_add, h1.cellAt (i * E.size + j) (by have : i * E.size + E.size ≤ L.length * E.size := by rw [← Nat.succ_mul]; exact Nat.mul_le_mul_right _ hi
                                                     omega)]
    exact flat_at hls i j (by omega) hj
/-- The cells of a held list, one behind the other. -/
theorem HeldE.news {a : Addr} {n cap : Nat} (h : HeldE E Z w (.slice (some a) n cap) L) (h0 : 0 < E.size) : ∃ CS : List (List Value), CS.length = L.length ∧ n = L.length ∧ (∀ j u, CS.flatten[j]? = some u → w.cell? (a.add j) = some u) ∧ ∀ i, i < L.length → E.rep Z w (CS.getD i []) (L.getD i E.zero) := by
  obtain ⟨hn, _, hc⟩ := h.spots
  have hch : ∀ i : Fin L.length, ∃ C, (∀ j, j < E.size → w.cell? (a.add (i * E.size + j)) = C[j]?) ∧ E.rep Z w C (L.getD i E.zero) := by
    intro i
    obtain ⟨b, off, e, _, _, C, h1, h2⟩ := hc i.1 i.2
    cases e
    refine ⟨C, fun j hj => ?_, h2⟩
    rw [Addr.add_lit, ← h1 j hj, Nat.add_assoc]
  refine ⟨List.ofFn fun i => Classical.choose (hch i), by simp, hn, fun j u hj => ?_, fun i hi => ?_⟩
  · have hlens : ∀ C ∈ (List.ofFn fun i => Classical.choose (hch i)), C.length = E.size := by
      intro C hC
      obtain ⟨i, rfl⟩ := List.mem_ofFn.1 hC
      exact E.len (Classical.choose_spec (hch i)).2
    have hfl := flat_len hlens
    have hjl : j < (List.ofFn fun i => Classical.choose (hch i)).flatten.length := (List.getElem?_eq_some_iff.1 hj).1
    rw [hfl, List.length_ofFn] at hjl
    have hi : j / E.size < L.length := (Nat.div_lt_iff_lt_mul h0).2 hjl
    have hjj : j = j / E.size * E.size + j % E.size := by rw [Nat.mul_comm]; exact (Nat.div_add_mod j E.size).symm
    have hmod : j % E.size < E.size := Nat.mod_lt _ h0
    have h1 := (Classical.choose_spec (hch ⟨j / E.size, hi⟩)).1 (j % E.size) hmod
    have h2 := flat_at hlens (j / E.size) (j % E.size) (by simpa using hi) hmod
    rw [← hjj, hj] at h2
    simp only [List.getD, List.getElem?_ofFn, hi, dif_pos, Option.getD_some] at h2
    rw [hjj]
    exact h1.trans h2.symm
  · simp only [List.getD, List.getElem?_ofFn, hi, dif_pos, Option.getD_some]
    exact (Classical.choose_spec (hch ⟨i, hi⟩)).2
theorem flat_ints (k : IntKind) : ∀ xs : List Int, (xs.map fun x => [Value.int k x]).flatten = xs.map (Value.int k)
  | [] => rfl
  | x :: xs => by rw [List.map_cons, List.flatten_cons, flat_ints k xs]; rfl
theorem ownE_ints {k : IntKind} {Z : Zone} {w : World} {B n : Nat} {ty : TypeId} {v : Value} {xs : List Int} (h : w.ownsRow B ty 1 v n (xs.map (Value.int k))) : OwnE (intE k) Z w B ty v xs := by
  have hn : xs.length = n := by have := h.1; simpa using this
  subst hn
  refine ⟨xs.map fun x => [.int k x], ?_, by simp, fun i hi => ?_⟩
  · rw [flat_ints]
    exact h
  · show _ = _
    simp [List.getD, List.getElem?_eq_getElem hi, intE]
theorem OwnE.ints {k : IntKind} {Z : Zone} {w : World} {B : Nat} {ty : TypeId} {v : Value} {xs : List Int} (h : OwnE (intE k) Z w B ty v xs) : w.ownsRow B ty 1 v xs.length (xs.map (Value.int k)) := by
  obtain ⟨CS, h1, h2, h3⟩ := h
  have e : CS.flatten = xs.map (Value.int k) := by
    apply List.ext_getElem?
    intro i
    have hls : ∀ C ∈ CS, C.length = 1 := own_lens h2 h3
    by_cases hi : i < xs.length
    · have := flat_at hls i 0 (by omega) (by omega)
      rw [Nat.mul_one, Nat.add_zero] at this
      rw [this, show CS.getD i [] = [.int k (xs.getD i 0)] from h3 i hi]
      simp [List.getD, List.getElem?_eq_getElem hi]
    · rw [List.getElem?_eq_none (by rw [flat_len hls]; omega), List.getElem?_eq_none (by simp; omega)]
  rw [← e]
  exact h1
/-- A block that was just laid. -/
theorem OwnE.lit (w : World) (E : Elem α) (CS : List (List Value)) (L : List α) (n : Nat) (hn : L.length = n) (hl : CS.length = n) (hb : B ≤ w.heap.size) (hm : n ≤ maxLen) (hr : ∀ i, i < n → E.rep Z w (CS.getD i []) (L.getD i E.zero)) (C : Array Value) (hC : C = CS.flatten.toArray) :
    OwnE E Z (w.alloc (.cells C ty)) B ty (.slice (some ⟨w.heap.size, 0, none⟩) n n) L := by
  subst hC hn
  have hls := own_lens hl hr
  refine ⟨CS, ?_, hl, fun i hi => E.keep (Z := fun b => Z b ∧ b < w.heap.size) (.all ((Below.refl _ _).alloc (Nat.le_refl _) _) _) (fun b hb hz => ⟨hz.1, fun e => ?_⟩) (E.keep (.refl _ _) (fun b hb hz => ⟨hz, hb⟩) (hr i hi))⟩
  · have := World.ownsRow_lit (base := B) (e := ty) (size := E.size) w CS.flatten.toArray L.length hb hm (by simp only [List.size_toArray]; rw [flat_len hls, hl])
    simpa using this
  · simp only [Value.ownBlock, Option.some.injEq] at e
    omega
end
end Go.Proofs.YtomfclkldmmmgaaDoor
