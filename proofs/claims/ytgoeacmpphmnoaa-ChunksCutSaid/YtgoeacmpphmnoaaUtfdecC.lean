/- Contracts of utfdec: a decoder's calls. -/
import Derived.Test.YtgoeacmpphmnoaaOctK
import Derived.Test.YtgoeacmpphmnoaaObj
namespace Go.Proofs.Ytgoeacmpphmnoaa
open Go.RowKit Go.ChangeShapes Go.WideShapes
/-- Block g is a decoder in a state. -/
def DecAt (w : World) (g : Nat) (l b h : Int) : Prop := Has w g [.int .u8 l, .int .i32 b, .int .i64 h] 40
theorem held_any (g : Nat) (l b h : Int) (w : World) (hd : DecAt w g l b h) : Calls Try.prog 73 #[.pointer (some ⟨g, 0, none⟩)] w fun e w' => e = .returned (.int .i64 h) ∧ w = w' := by
  have c2 := hd.cell 2 _ rfl
  go_enter Try.func73, Try.ntmps73
  go_wp2
  go_ret
  exact ⟨rfl, rfl⟩
theorem held_nil (w : World) : Calls Try.prog 73 #[.pointer none] w fun e w' => e = .returned (.int .i64 0) ∧ w = w' := by
  go_enter Try.func73, Try.ntmps73
  go_wp2
  go_ret
  exact ⟨rfl, rfl⟩
theorem flush_none (g : Nat) (l b : Int) (w : World) (hd : DecAt w g l b 0) : Calls Try.prog 24 #[.pointer (some ⟨g, 0, none⟩)] w fun e w' => e = .returned (.slice none 0 0) ∧ w = w' := by
  go_enter Try.func24, Try.ntmps24
  go_wp2_with fail
  refine (held_any g l b 0 _ hd).mono ?_
  rintro e w' ⟨rfl, rfl⟩
  go_wp2
  go_ret
  exact ⟨rfl, rfl⟩
theorem flush_nil (w : World) : Calls Try.prog 24 #[.pointer none] w fun e w' => e = .returned (.slice none 0 0) ∧ w = w' := by
  go_enter Try.func24, Try.ntmps24
  go_wp2_with fail
  refine (held_nil _).mono ?_
  rintro e w' ⟨rfl, rfl⟩
  go_wp2
  go_ret
  exact ⟨rfl, rfl⟩
/-- A decoder that has just been flushed. -/
def Flushed (w : World) (g : Nat) (e : Ending) (w' : World) : Prop := ∃ v, e = .returned v ∧ Held .i32 w' v [65533] ∧ DecAt w' g 0 0 0 ∧ But g w.heap.size w w'
theorem DecAt.zero {w : World} {g : Nat} {l b h : Int} (hd : DecAt w g l b h) : DecAt (((w.setCell ⟨g, 0, none⟩ (.int .u8 0)).setCell ⟨g, 1, none⟩ (.int .i32 0)).setCell ⟨g, 2, none⟩ (.int .i64 0)) g 0 0 0 :=
  ((hd.set 0 _).set 1 _).set 2 _
theorem zero_but (w : World) (g : Nat) (x y z : Value) : But g w.heap.size w (((w.setCell ⟨g, 0, none⟩ x).setCell ⟨g, 1, none⟩ y).setCell ⟨g, 2, none⟩ z) :=
  (((But.refl _ _ _).set 0 _).set 1 _).set 2 _
theorem flush_some (g : Nat) (l b h : Int) (w : World) (hd : DecAt w g l b h) (hh : 0 < h) : Calls Try.prog 24 #[.pointer (some ⟨g, 0, none⟩)] w (Flushed w g) := by
  have HD := Lib.hid hd
  have c0 := hd.cell 0 _ rfl
  have c1 := hd.cell 1 _ rfl
  have c2 := hd.cell 2 _ rfl
  have f0 := hd.free 0
  have f1 := hd.free 1
  have f2 := hd.free 2
  have hl := hd.lt
  have t1 : (h == 0) = false := by simp; omega
  clear hd
  go_enter Try.func24, Try.ntmps24
  go_wp2_with fail
  refine (held_any g l b h _ HD.out).mono ?_
  rintro e w' ⟨rfl, rfl⟩
  go_wp2
  go_ret
  refine ⟨_, rfl, held_newAt .i32 _ _ [.int .i32 65533] 21 1 1 [65533] (by simp) rfl rfl, (HD.out.zero).alloc _, (zero_but w g _ _ _).alloc (Nat.le_refl _) _⟩
/-- Can byte x come behind what is held? -/
def nextB (l h x : Int) : Bool := if 1 < h then tailB x else decide (lo2 l ≤ x) && decide (x ≤ hi2 l)
theorem next_any (g : Nat) (l b h x : Int) (w : World) (hd : DecAt w g l b h) (l0 : 0 ≤ l) (l1 : l ≤ 255) (x0 : 0 ≤ x) (x1 : x ≤ 255) : Calls Try.prog 129 #[.pointer (some ⟨g, 0, none⟩), .int .u8 x] w fun e w' => e = .returned (.bool (nextB l h x)) ∧ w = w' := by
  have c0 := hd.cell 0 _ rfl
  have c2 := hd.cell 2 _ rfl
  clear hd
  by_cases h1 : 1 < h
  · rw [show nextB l h x = tailB x from by unfold nextB; rw [if_pos h1]]
    go_enter Try.func129, Try.ntmps129
    go_wp2_with fail
    refine (tail_any x _ x0 x1).mono ?_
    rintro e w' ⟨rfl, rfl⟩
    go_wp2
    go_ret
    exact ⟨rfl, rfl⟩
  · have hs : nextB l h x = (decide (lo2 l ≤ x) && decide (x ≤ hi2 l)) := by unfold nextB; rw [if_neg h1]
    have HS := Lib.hid hs
    clear hs
    by_cases h2 : lo2 l ≤ x
    · go_enter Try.func129, Try.ntmps129
      go_wp2_with fail
      refine (second_any l _ l0 l1).mono ?_
      rintro e w' ⟨rfl, rfl⟩
      go_wp2
      go_ret
      exact ⟨ret_eq (by rw [HS.out]; simp [h2]), rfl⟩
    · go_enter Try.func129, Try.ntmps129
      go_wp2_with fail
      refine (second_any l _ l0 l1).mono ?_
      rintro e w' ⟨rfl, rfl⟩
      go_wp2
      go_ret
      exact ⟨ret_eq (by rw [HS.out]; simp; omega), rfl⟩
/-- What is told of a byte where none is held; what is held then. -/
def beginT (x : Int) : List Int := if leadI x = 0 then [65533] else if leadI x = 1 then [x] else []
def beginL (x : Int) : Int := if 2 ≤ leadI x then x else 0
def beginBt (x : Int) : Int := if 2 ≤ leadI x then bitsI x else 0
def beginH (x : Int) : Int := if 2 ≤ leadI x then 1 else 0
/-- What is told, and the decoder's state behind it. -/
def Told (B : Nat) (w : World) (g : Nat) (n : Nat) (xs : List Int) (l b h : Int) (e : Ending) (w' : World) : Prop :=
  ∃ v', e = .returned v' ∧ w'.ownsRow B 21 1 v' n (xs.map (Value.int .i32)) ∧ DecAt w' g l b h ∧ But g B w w'
theorem Try.info21 : (Try.prog.info? 21).map (fun i => (i.zero, i.size, i.bytes)) = some (some (.int .i32 0), 1, 4) := by kernel_rfl
set_option maxRecDepth 100000 in
theorem begin_any (g B : Nat) (v : Value) (n : Nat) (xs : List Int) (x : Int) (w : World) (hd : DecAt w g 0 0 0) (hg : g < B) (hown : w.ownsRow B 21 1 v n (xs.map (Value.int .i32))) (hB : B ≤ w.heap.size) (hn : n ≤ 1000000000) (x0 : 0 ≤ x) (x1 : x ≤ 255) :
    Calls Try.prog 130 #[.pointer (some ⟨g, 0, none⟩), v, .int .u8 x] w (Told B w g (n + (beginT x).length) (xs ++ beginT x) (beginL x) (beginBt x) (beginH x)) := by
  have HD := Lib.hid hd
  have c0 := hd.cell 0 _ rfl
  have c1 := hd.cell 1 _ rfl
  have c2 := hd.cell 2 _ rfl
  have f0 := hd.free 0
  have f1 := hd.free 1
  have f2 := hd.free 2
  have hl := hd.lt
  clear hd
  rcases lead_cases x with ⟨h2, hs⟩ | ⟨h2, h3, hs⟩ | ⟨h2, h3, hs⟩ | ⟨h2, h3, hs⟩ | ⟨h2, h3, hs⟩ | ⟨h2, hs⟩
  · rw [show beginT x = [x] from by simp [beginT, hs], show beginL x = 0 from by simp [beginL, hs], show beginBt x = 0 from by simp [beginBt, hs], show beginH x = 0 from by simp [beginH, hs]]
    have HS := Lib.hid hs
    clear hs
    go_enter Try.func130, Try.ntmps130
    go_wp2_with fail
    refine (lead_any x _ x0 x1).mono ?_
    rintro e w' ⟨rfl, rfl⟩
    rw [HS.out]
    go_wp2_with (at_builtin; refine wpList_append_new w rfl (.tmp 16) (.tmp 19) 29 rfl B 21 (.int .i32 0) 4 Try.underlying29 Try.info21 rfl v n (xs.map (Value.int .i32)) rfl hown [.int .i32 x] 1 1 rfl rfl (by intro u hu; simp at hu; rcases hu with rfl <;> rfl) (by omega) (by omega) hB ?_)
    intro v' w' hown' hb
    clear hown
    go_wp2
    go_ret
    exact ⟨v', rfl, by simpa using hown', HD.out.below hb hg, .ofBelow hb⟩
  · rw [show beginT x = [65533] from by simp [beginT, hs], show beginL x = 0 from by simp [beginL, hs], show beginBt x = 0 from by simp [beginBt, hs], show beginH x = 0 from by simp [beginH, hs]]
    have HS := Lib.hid hs
    clear hs
    go_enter Try.func130, Try.ntmps130
    go_wp2_with fail
    refine (lead_any x _ x0 x1).mono ?_
    rintro e w' ⟨rfl, rfl⟩
    rw [HS.out]
    go_wp2_with (at_builtin; refine wpList_append_new w rfl (.tmp 11) (.tmp 12) 29 rfl B 21 (.int .i32 0) 4 Try.underlying29 Try.info21 rfl v n (xs.map (Value.int .i32)) rfl hown [.int .i32 65533] 1 1 rfl rfl (by intro u hu; simp at hu; rcases hu with rfl <;> rfl) (by omega) (by omega) hB ?_)
    intro v' w' hown' hb
    clear hown
    go_wp2
    go_ret
    exact ⟨v', rfl, by simpa using hown', HD.out.below hb hg, .ofBelow hb⟩
  · rw [show beginT x = [] from by simp [beginT, hs], show beginL x = x from by simp [beginL, hs], show beginBt x = bitsI x from by simp [beginBt, hs], show beginH x = 1 from by simp [beginH, hs]]
    have hbi : 0 ≤ bitsI x ∧ bitsI x ≤ 255 := by unfold bitsI; rw [hs]; simp; omega
    have HS := Lib.hid hs
    clear hs
    go_enter Try.func130, Try.ntmps130
    go_wp2_with fail
    refine (lead_any x _ x0 x1).mono ?_
    rintro e w' ⟨rfl, rfl⟩
    rw [HS.out]
    go_wp2_with fail
    refine (bits_any x _ x0 x1).mono ?_
    rintro e w' ⟨rfl, rfl⟩
    go_wp2
    go_ret
    exact ⟨v, rfl, by simpa using own_but hown (zero_but w g _ _ _) hg, ((HD.out.set 0 _).set 1 _).set 2 _, (zero_but w g _ _ _).mono hB⟩
  · rw [show beginT x = [] from by simp [beginT, hs], show beginL x = x from by simp [beginL, hs], show beginBt x = bitsI x from by simp [beginBt, hs], show beginH x = 1 from by simp [beginH, hs]]
    have hbi : 0 ≤ bitsI x ∧ bitsI x ≤ 255 := by unfold bitsI; rw [hs]; simp; omega
    have HS := Lib.hid hs
    clear hs
    go_enter Try.func130, Try.ntmps130
    go_wp2_with fail
    refine (lead_any x _ x0 x1).mono ?_
    rintro e w' ⟨rfl, rfl⟩
    rw [HS.out]
    go_wp2_with fail
    refine (bits_any x _ x0 x1).mono ?_
    rintro e w' ⟨rfl, rfl⟩
    go_wp2
    go_ret
    exact ⟨v, rfl, by simpa using own_but hown (zero_but w g _ _ _) hg, ((HD.out.set 0 _).set 1 _).set 2 _, (zero_but w g _ _ _).mono hB⟩
  · rw [show beginT x = [] from by simp [beginT, hs], show beginL x = x from by simp [beginL, hs], show beginBt x = bitsI x from by simp [beginBt, hs], show beginH x = 1 from by simp [beginH, hs]]
    have hbi : 0 ≤ bitsI x ∧ bitsI x ≤ 255 := by unfold bitsI; rw [hs]; simp; omega
    have HS := Lib.hid hs
    clear hs
    go_enter Try.func130, Try.ntmps130
    go_wp2_with fail
    refine (lead_any x _ x0 x1).mono ?_
    rintro e w' ⟨rfl, rfl⟩
    rw [HS.out]
    go_wp2_with fail
    refine (bits_any x _ x0 x1).mono ?_
    rintro e w' ⟨rfl, rfl⟩
    go_wp2
    go_ret
    exact ⟨v, rfl, by simpa using own_but hown (zero_but w g _ _ _) hg, ((HD.out.set 0 _).set 1 _).set 2 _, (zero_but w g _ _ _).mono hB⟩
  · rw [show beginT x = [65533] from by simp [beginT, hs], show beginL x = 0 from by simp [beginL, hs], show beginBt x = 0 from by simp [beginBt, hs], show beginH x = 0 from by simp [beginH, hs]]
    have HS := Lib.hid hs
    clear hs
    go_enter Try.func130, Try.ntmps130
    go_wp2_with fail
    refine (lead_any x _ x0 x1).mono ?_
    rintro e w' ⟨rfl, rfl⟩
    rw [HS.out]
    go_wp2_with (at_builtin; refine wpList_append_new w rfl (.tmp 11) (.tmp 12) 29 rfl B 21 (.int .i32 0) 4 Try.underlying29 Try.info21 rfl v n (xs.map (Value.int .i32)) rfl hown [.int .i32 65533] 1 1 rfl rfl (by intro u hu; simp at hu; rcases hu with rfl <;> rfl) (by omega) (by omega) hB ?_)
    intro v' w' hown' hb
    clear hown
    go_wp2
    go_ret
    exact ⟨v', rfl, by simpa using hown', HD.out.below hb hg, .ofBelow hb⟩
/-- A decoder's state: nothing held, or the beginning of a form. -/
def mxD (L h : Int) : Int := if L = 2 then 32 else if L = 3 then (if h = 1 then 16 else 1024) else (if h = 1 then 8 else if h = 2 then 512 else 32768)
def wfD (l b h : Int) : Prop := (l = 0 ∧ b = 0 ∧ h = 0) ∨ (0 ≤ l ∧ l ≤ 255 ∧ 1 ≤ h ∧ h < leadI l ∧ 0 ≤ b ∧ b < mxD (leadI l) h)
theorem mxD_le (L h : Int) : mxD L h ≤ 32768 := by unfold mxD; split <;> (try split) <;> (try split) <;> omega
theorem leadI_le (l : Int) : 0 ≤ leadI l ∧ leadI l ≤ 4 := by unfold leadI; omega
def tellT (l b h x : Int) : List Int := if h = 0 then beginT x else if nextB l h x = true then (if h + 1 < leadI l then [] else [b * 64 + x % 64]) else 65533 :: beginT x
def tellL (l h x : Int) : Int := if h = 0 then beginL x else if nextB l h x = true then (if h + 1 < leadI l then l else 0) else beginL x
def tellBt (l b h x : Int) : Int := if h = 0 then beginBt x else if nextB l h x = true then (if h + 1 < leadI l then b * 64 + x % 64 else 0) else beginBt x
def tellH (l h x : Int) : Int := if h = 0 then beginH x else if nextB l h x = true then (if h + 1 < leadI l then h + 1 else 0) else beginH x
set_option maxRecDepth 100000 in
theorem tell_begin (g B : Nat) (v : Value) (n : Nat) (xs : List Int) (x : Int) (w : World) (hd : DecAt w g 0 0 0) (hg : g < B) (hown : w.ownsRow B 21 1 v n (xs.map (Value.int .i32))) (hB : B ≤ w.heap.size) (hn : n ≤ 1000000000) (x0 : 0 ≤ x) (x1 : x ≤ 255) :
    Calls Try.prog 72 #[.pointer (some ⟨g, 0, none⟩), v, .int .u8 x] w (Told B w g (n + (beginT x).length) (xs ++ beginT x) (beginL x) (beginBt x) (beginH x)) := by
  have HD := Lib.hid hd
  have c2 := hd.cell 2 _ rfl
  clear hd
  go_enter Try.func72, Try.ntmps72
  go_wp2_with fail
  refine (begin_any g B v n xs x _ HD.out hg hown hB hn x0 x1).mono ?_
  rintro e w1 ⟨v1, rfl, ho, hd, hb⟩
  clear hown
  go_wp2
  go_ret
  exact ⟨v1, rfl, ho, hd, hb⟩
theorem two_but (w : World) (g : Nat) (y z : Value) : But g w.heap.size w ((w.setCell ⟨g, 1, none⟩ y).setCell ⟨g, 2, none⟩ z) := ((But.refl _ _ _).set 1 _).set 2 _
set_option maxRecDepth 100000 in
theorem tell_on (g B : Nat) (v : Value) (n : Nat) (xs : List Int) (l b h x : Int) (w : World) (hd : DecAt w g l b h) (l0 : 0 ≤ l) (l1 : l ≤ 255) (h0 : 1 ≤ h) (h1 : h ≤ 4) (b0 : 0 ≤ b) (b1 : b < 32768) (hx : nextB l h x = true) (hg : g < B) (hown : w.ownsRow B 21 1 v n (xs.map (Value.int .i32))) (hB : B ≤ w.heap.size) (hn : n ≤ 1000000000) (x0 : 0 ≤ x) (x1 : x ≤ 255) (hm : h + 1 < leadI l) :
    Calls Try.prog 72 #[.pointer (some ⟨g, 0, none⟩), v, .int .u8 x] w (Told B w g n xs l (b * 64 + x % 64) (h + 1)) := by
  have HD := Lib.hid hd
  have c0 := hd.cell 0 _ rfl
  have c1 := hd.cell 1 _ rfl
  have c2 := hd.cell 2 _ rfl
  have f1 := hd.free 1
  have f2 := hd.free 2
  have hl := hd.lt
  have t1 : (h == 0) = false := by simp; omega
  have e1 := u8_and63 x x0 x1
  have e2 := i32_join (b * 64) (x % 64) (by omega) (by omega) (by omega) (by omega) (by omega)
  have HN := Lib.hid hx
  clear hd hx
  go_enter Try.func72, Try.ntmps72
  go_wp2_with fail
  refine (next_any g l b h x _ HD.out l0 l1 x0 x1).mono ?_
  rintro e w' ⟨rfl, rfl⟩
  rw [HN.out]
  go_wp2
  go_quiet ((go_at_call 71; exact callq (lead_any l _ l0 l1)))
  go_wp2
  go_ret
  exact ⟨v, rfl, own_but hown ((two_but w g _ _).drewN nq) hg, ((HD.out.set 1 _).set 2 _).drewN nq, ((two_but w g _ _).drewN nq).mono hB⟩
set_option maxRecDepth 100000 in
theorem tell_whole (g B : Nat) (v : Value) (n : Nat) (xs : List Int) (l b h x : Int) (w : World) (hd : DecAt w g l b h) (l0 : 0 ≤ l) (l1 : l ≤ 255) (h0 : 1 ≤ h) (h1 : h ≤ 4) (b0 : 0 ≤ b) (b1 : b < 32768) (hx : nextB l h x = true) (hg : g < B) (hown : w.ownsRow B 21 1 v n (xs.map (Value.int .i32))) (hB : B ≤ w.heap.size) (hn : n ≤ 1000000000) (x0 : 0 ≤ x) (x1 : x ≤ 255) (hm : ¬ h + 1 < leadI l) :
    Calls Try.prog 72 #[.pointer (some ⟨g, 0, none⟩), v, .int .u8 x] w (Told B w g (n + 1) (xs ++ [b * 64 + x % 64]) 0 0 0) := by
  have HD := Lib.hid hd
  have c0 := hd.cell 0 _ rfl
  have c1 := hd.cell 1 _ rfl
  have c2 := hd.cell 2 _ rfl
  have f1 := hd.free 1
  have f2 := hd.free 2
  have hl := hd.lt
  have t1 : (h == 0) = false := by simp; omega
  have e1 := u8_and63 x x0 x1
  have e2 := i32_join (b * 64) (x % 64) (by omega) (by omega) (by omega) (by omega) (by omega)
  have HN := Lib.hid hx
  clear hd hx
  go_enter Try.func72, Try.ntmps72
  go_wp2_with fail
  refine (next_any g l b h x _ HD.out l0 l1 x0 x1).mono ?_
  rintro e w' ⟨rfl, rfl⟩
  rw [HN.out]
  go_wp2
  go_quiet ((go_at_call 71; exact callq (lead_any l _ l0 l1)))
  have ho2 := own_but hown ((two_but w g (.int .i32 (b * 64 + x % 64)) (.int .i64 (h + 1))).drewN nq) hg
  have hd2 := ((HD.out.set 1 (.int .i32 (b * 64 + x % 64))).set 2 (.int .i64 (h + 1))).drewN nq
  have hb2 := ((two_but w g (.int .i32 (b * 64 + x % 64)) (.int .i64 (h + 1))).drewN nq).mono hB
  have hB2 := Nat.le_trans hB hb2.size
  generalize (((w.setCell ⟨g, 1, none⟩ (.int .i32 (b * 64 + x % 64))).setCell ⟨g, 2, none⟩ (.int .i64 (h + 1))).drewN nq) = w2 at *
  have c1 := hd2.cell 1 _ rfl
  clear c0 c2 f1 f2 hown
  go_wp2_with (at_builtin; refine wpList_append_new w2 rfl (.tmp 61) (.tmp 66) 29 rfl B 21 (.int .i32 0) 4 Try.underlying29 Try.info21 rfl v n (xs.map (Value.int .i32)) rfl ho2 [.int .i32 (b * 64 + x % 64)] 1 1 rfl rfl (by intro u hu; simp at hu; rcases hu with rfl <;> rfl) (by omega) (by omega) hB2 ?_)
  intro v' w' hown' hb
  have hd3 := hd2.below hb hg
  have c0 := hd3.cell 0 _ rfl
  have c1 := hd3.cell 1 _ rfl
  have c2 := hd3.cell 2 _ rfl
  have f0 := hd3.free 0
  have f1 := hd3.free 1
  have f2 := hd3.free 2
  have hd4 := ((hd3.set 0 (.int .u8 0)).set 1 (.int .i32 0)).set 2 (.int .i64 0)
  have hb4 := (hb2.trans (.ofBelow hb)).trans ((zero_but w' g (.int .u8 0) (.int .i32 0) (.int .i64 0)).mono (Nat.le_trans hB2 hb.size))
  have ho4 := own_but hown' (zero_but w' g (.int .u8 0) (.int .i32 0) (.int .i64 0)) hg
  clear ho2 hown' hd2 hd3 hb2 hb
  go_wp2
  go_ret
  exact ⟨v', rfl, by simpa using ho4, hd4, hb4⟩
set_option maxRecDepth 100000 in
theorem tell_not (g B : Nat) (v : Value) (n : Nat) (xs : List Int) (l b h x : Int) (w : World) (hd : DecAt w g l b h) (l0 : 0 ≤ l) (l1 : l ≤ 255) (h0 : 1 ≤ h) (h1 : h ≤ 4) (hx : nextB l h x = false) (hg : g < B) (hown : w.ownsRow B 21 1 v n (xs.map (Value.int .i32))) (hB : B ≤ w.heap.size) (hn : n ≤ 1000000000 - 1) (x0 : 0 ≤ x) (x1 : x ≤ 255) :
    Calls Try.prog 72 #[.pointer (some ⟨g, 0, none⟩), v, .int .u8 x] w (Told B w g (n + 1 + (beginT x).length) ((xs ++ [65533]) ++ beginT x) (beginL x) (beginBt x) (beginH x)) := by
  have HD := Lib.hid hd
  have c2 := hd.cell 2 _ rfl
  have HN := Lib.hid hx
  clear hd hx
  go_enter Try.func72, Try.ntmps72
  go_wp2_with fail
  refine (next_any g l b h x _ HD.out l0 l1 x0 x1).mono ?_
  rintro e w' ⟨rfl, rfl⟩
  rw [HN.out]
  go_wp2_with fail
  refine (flush_some g l b h _ HD.out (by omega)).mono ?_
  rintro e w1 ⟨v1, rfl, hh1, hd1, hb1⟩
  have ho1 := own_but hown hb1 hg
  have hB1 := Nat.le_trans hB hb1.size
  clear hown c2
  go_wp2_with (at_builtin; refine wpList_append_held w1 rfl (.tmp 18) (.tmp 20) 29 rfl B 21 (.int .i32 0) 4 Try.underlying29 Try.info21 rfl .i32 v n xs rfl ho1 v1 [65533] rfl hh1 (by simp; omega) (by simp; omega) hB1 ?_)
  intro v2 w2 ho2 hb2
  have hd2 := hd1.below hb2 hg
  have c2 := hd2.cell 2 _ rfl
  have hbb := (hb1.mono hB).trans (.ofBelow hb2)
  have hB2 := Nat.le_trans hB1 hb2.size
  clear ho1 hd1 hb1 hb2 hh1
  go_wp2_with fail
  refine (begin_any g B v2 (n + 1) (xs ++ [65533]) x _ hd2 hg (by rw [List.map_append]; exact ho2) hB2 (by omega) x0 x1).mono ?_
  rintro e w3 ⟨v3, rfl, ho, hd, hb⟩
  clear ho2
  go_wp2
  go_ret
  exact ⟨v3, rfl, ho, hd, hbb.trans hb⟩
theorem tell_any (g B : Nat) (v : Value) (n : Nat) (xs : List Int) (l b h x : Int) (w : World) (hd : DecAt w g l b h) (hw : wfD l b h) (hg : g < B) (hown : w.ownsRow B 21 1 v n (xs.map (Value.int .i32))) (hB : B ≤ w.heap.size) (hn : n ≤ 1000000000 - 1) (x0 : 0 ≤ x) (x1 : x ≤ 255) :
    Calls Try.prog 72 #[.pointer (some ⟨g, 0, none⟩), v, .int .u8 x] w (Told B w g (n + (tellT l b h x).length) (xs ++ tellT l b h x) (tellL l h x) (tellBt l b h x) (tellH l h x)) := by
  rcases hw with ⟨rfl, rfl, rfl⟩ | ⟨l0, l1, h0, h1, b0, b1⟩
  · exact tell_begin g B v n xs x w hd hg hown hB (by omega) x0 x1
  · have hl4 := leadI_le l
    have hm := mxD_le (leadI l) h
    have hne : ¬ h = 0 := by omega
    cases hx : nextB l h x with
    | true =>
      by_cases hm2 : h + 1 < leadI l
      · have e1 : tellT l b h x = [] := by unfold tellT; rw [if_neg hne, if_pos hx, if_pos hm2]
        have e2 : tellL l h x = l := by unfold tellL; rw [if_neg hne, if_pos hx, if_pos hm2]
        have e3 : tellBt l b h x = b * 64 + x % 64 := by unfold tellBt; rw [if_neg hne, if_pos hx, if_pos hm2]
        have e4 : tellH l h x = h + 1 := by unfold tellH; rw [if_neg hne, if_pos hx, if_pos hm2]
        rw [e1, e2, e3, e4]
        simpa using tell_on g B v n xs l b h x w hd l0 l1 h0 (by omega) b0 (by omega) hx hg hown hB (by omega) x0 x1 hm2
      · have e1 : tellT l b h x = [b * 64 + x % 64] := by unfold tellT; rw [if_neg hne, if_pos hx, if_neg hm2]
        have e2 : tellL l h x = 0 := by unfold tellL; rw [if_neg hne, if_pos hx, if_neg hm2]
        have e3 : tellBt l b h x = 0 := by unfold tellBt; rw [if_neg hne, if_pos hx, if_neg hm2]
        have e4 : tellH l h x = 0 := by unfold tellH; rw [if_neg hne, if_pos hx, if_neg hm2]
        rw [e1, e2, e3, e4]
        exact tell_whole g B v n xs l b h x w hd l0 l1 h0 (by omega) b0 (by omega) hx hg hown hB (by omega) x0 x1 hm2
    | false =>
      have hxf : ¬ nextB l h x = true := by rw [hx]; simp
      have e1 : tellT l b h x = 65533 :: beginT x := by unfold tellT; rw [if_neg hne, if_neg hxf]
      have e2 : tellL l h x = beginL x := by unfold tellL; rw [if_neg hne, if_neg hxf]
      have e3 : tellBt l b h x = beginBt x := by unfold tellBt; rw [if_neg hne, if_neg hxf]
      have e4 : tellH l h x = beginH x := by unfold tellH; rw [if_neg hne, if_neg hxf]
      rw [e1, e2, e3, e4]
      have := tell_not g B v n xs l b h x w hd l0 l1 h0 (by omega) hx hg hown hB hn x0 x1
      rw [List.length_cons, show n + ((beginT x).length + 1) = n + 1 + (beginT x).length from by omega]
      simpa using this
theorem tellT_len (l b h x : Int) : (tellT l b h x).length ≤ 2 := by
  have : (beginT x).length ≤ 1 := by unfold beginT; split <;> (try split) <;> simp
  unfold tellT
  split
  · omega
  · split
    · split <;> simp
    · simp; omega
theorem wf_begin (x : Int) (x0 : 0 ≤ x) (x1 : x ≤ 255) : wfD (beginL x) (beginBt x) (beginH x) := by
  unfold wfD beginL beginBt beginH
  by_cases h : 2 ≤ leadI x
  · rw [if_pos h, if_pos h, if_pos h]
    refine .inr ⟨x0, x1, by omega, by omega, ?_⟩
    rcases lead_cases x with ⟨h2, hs⟩ | ⟨h2, h3, hs⟩ | ⟨h2, h3, hs⟩ | ⟨h2, h3, hs⟩ | ⟨h2, h3, hs⟩ | ⟨h2, hs⟩
    all_goals (rw [hs] at h; try omega)
    all_goals (unfold bitsI mxD; rw [hs]; simp; omega)
  · rw [if_neg h, if_neg h, if_neg h]
    exact .inl ⟨rfl, rfl, rfl⟩
theorem wf_tell (l b h x : Int) (hw : wfD l b h) (x0 : 0 ≤ x) (x1 : x ≤ 255) : wfD (tellL l h x) (tellBt l b h x) (tellH l h x) := by
  rcases hw with ⟨rfl, rfl, rfl⟩ | ⟨l0, l1, h0, h1, b0, b1⟩
  · exact wf_begin x x0 x1
  · have hne : ¬ h = 0 := by omega
    unfold tellL tellBt tellH
    rw [if_neg hne, if_neg hne, if_neg hne]
    by_cases hx : nextB l h x = true
    · rw [if_pos hx, if_pos hx, if_pos hx]
      by_cases hm : h + 1 < leadI l
      · rw [if_pos hm, if_pos hm, if_pos hm]
        refine .inr ⟨l0, l1, by omega, hm, by omega, ?_⟩
        have hl4 := leadI_le l
        unfold mxD at b1 ⊢
        obtain h3 | h4 : leadI l = 3 ∨ leadI l = 4 := by omega
        · obtain rfl : h = 1 := by omega
          rw [h3] at b1 ⊢
          simp at b1 ⊢; omega
        · rw [h4] at b1 ⊢
          obtain rfl | rfl : h = 1 ∨ h = 2 := by omega
          all_goals (simp at b1 ⊢; omega)
      · rw [if_neg hm, if_neg hm, if_neg hm]
        exact .inl ⟨rfl, rfl, rfl⟩
    · rw [if_neg hx, if_neg hx, if_neg hx]
      exact wf_begin x x0 x1
/-- Step: what is told of a byte. -/
def Stepped (w : World) (g : Nat) (xs : List Int) (l b h : Int) (e : Ending) (w' : World) : Prop :=
  ∃ v', e = .returned v' ∧ Held .i32 w' v' xs ∧ DecAt w' g l b h ∧ But g w.heap.size w w'
theorem step_any (g : Nat) (l b h x : Int) (w : World) (hd : DecAt w g l b h) (hw : wfD l b h) (x0 : 0 ≤ x) (x1 : x ≤ 255) :
    Calls Try.prog 23 #[.pointer (some ⟨g, 0, none⟩), .int .u8 x] w (Stepped w g (tellT l b h x) (tellL l h x) (tellBt l b h x) (tellH l h x)) := by
  have HD := Lib.hid hd
  have hg := hd.lt
  have HW := Lib.hid hw
  clear hd hw
  go_enter Try.func23, Try.ntmps23
  go_wp2_with fail
  refine (tell_any g w.heap.size (.slice none 0 0) 0 [] l b h x _ HD.out HW.out hg (World.ownsRow_nil _ _ _ _) (Nat.le_refl _) (by omega) x0 x1).mono ?_
  rintro e w1 ⟨v1, rfl, ho, hd, hb⟩
  have hh := held_of_owns ho
  clear ho
  go_wp2
  go_ret
  exact ⟨v1, rfl, by simpa using hh, hd, hb⟩
/-- States, and rows of bytes. -/
abbrev St := Int × Int × Int
def stepSt (s : St) (x : Int) : St := (tellL s.1 s.2.2 x, tellBt s.1 s.2.1 s.2.2 x, tellH s.1 s.2.2 x)
def stepTo (s : St) (x : Int) : List Int := tellT s.1 s.2.1 s.2.2 x
def feedSt (s : St) (p : List Int) : St := p.foldl stepSt s
def feedTo : St → List Int → List Int
  | _, [] => []
  | s, x :: p => stepTo s x ++ feedTo (stepSt s x) p
theorem feedTo_append (s : St) (p q : List Int) : feedTo s (p ++ q) = feedTo s p ++ feedTo (feedSt s p) q := by
  induction p generalizing s with
  | nil => rfl
  | cons x p ih => simp [feedTo, feedSt, ih]
theorem feedSt_append (s : St) (p q : List Int) : feedSt s (p ++ q) = feedSt (feedSt s p) q := by simp [feedSt]
theorem feedTo_len (s : St) (p : List Int) : (feedTo s p).length ≤ 2 * p.length := by
  induction p generalizing s with
  | nil => simp [feedTo]
  | cons x p ih => have := ih (stepSt s x); have := tellT_len s.1 s.2.1 s.2.2 x; simp [feedTo, stepTo]; omega
def wfS (s : St) : Prop := wfD s.1 s.2.1 s.2.2
theorem wfS_step (s : St) (x : Int) (h : wfS s) (x0 : 0 ≤ x) (x1 : x ≤ 255) : wfS (stepSt s x) := wf_tell _ _ _ _ h x0 x1
theorem wfS_feed (s : St) (p : List Int) (h : wfS s) (hp : ∀ x ∈ p, 0 ≤ x ∧ x ≤ 255) : wfS (feedSt s p) := by
  induction p generalizing s with
  | nil => exact h
  | cons x p ih =>
    have := hp x (by simp)
    exact ih (stepSt s x) (wfS_step s x h this.1 this.2) (fun y hy => hp y (by simp [hy]))
theorem wfS_zero : wfS (0, 0, 0) := .inl ⟨rfl, rfl, rfl⟩
theorem take_snoc' (xs : List Int) (k : Nat) (h : k < xs.length) : xs.take (k + 1) = xs.take k ++ [xs.getD k 0] := by
  rw [List.take_succ_eq_append_getElem h]
  simp [List.getD, List.getElem?_eq_getElem h]
theorem feedTo_take (s : St) (p : List Int) (k : Nat) (h : k < p.length) : feedTo s (p.take (k + 1)) = feedTo s (p.take k) ++ stepTo (feedSt s (p.take k)) (p.getD k 0) := by
  rw [take_snoc' p k h, feedTo_append]
  simp [feedTo]
theorem feedSt_take (s : St) (p : List Int) (k : Nat) (h : k < p.length) : feedSt s (p.take (k + 1)) = stepSt (feedSt s (p.take k)) (p.getD k 0) := by
  rw [take_snoc' p k h, feedSt_append]
  rfl
def FeedRel (w : World) (g : Nat) (s : St) (p : List Int) (k : Nat) (v : Value) (wr : World) : Prop :=
  wr.ownsRow w.heap.size 21 1 v (feedTo s (p.take k)).length ((feedTo s (p.take k)).map (Value.int .i32)) ∧ DecAt wr g (feedSt s (p.take k)).1 (feedSt s (p.take k)).2.1 (feedSt s (p.take k)).2.2 ∧ But g w.heap.size w wr
/-- A held list stays held while block g turns, if it does not lie there. -/
theorem held_but {k : IntKind} {w w' : World} {ao : Option Addr} {n cap : Nat} {xs : List Int} {g : Nat} (hb : But g w.heap.size w w') (hne : ∀ a, ao = some a → a.block ≠ g) (h : Held k w (.slice ao n cap) xs) : Held k w' (.slice ao n cap) xs := by
  obtain ⟨ao', cap', e, hn, hc⟩ := h
  cases e
  refine ⟨ao, cap, rfl, hn, fun i hi => ?_⟩
  obtain ⟨b, off, rfl, hlt, hcell⟩ := hc i hi
  refine ⟨b, off, rfl, by have := hb.size; omega, ?_⟩
  rw [← hcell]
  exact World.cell?_of_block (a := ⟨b, off + i, none⟩) (hb.block b hlt (hne _ rfl))
def SteppedF (w : World) (g : Nat) (xs : List Int) (l b h : Int) (e : Ending) (w' : World) : Prop :=
  ∃ v', e = .returned v' ∧ Held .i32 w' v' xs ∧ DecAt w' g l b h ∧ But g w.heap.size w w' ∧ Fresh w.heap.size v'
theorem arg_ne {k : IntKind} {w : World} {v : Value} {xs : List Int} {g : Nat} (h : Held k w v xs) (hg : w.heap.size ≤ g) : ∀ a n c, 0 < xs.length → v = .slice (some a) n c → a.block ≠ g := by
  intro a n c hl e
  obtain ⟨ao, cap, rfl, _, hc⟩ := h
  obtain ⟨b, off, e2, hb, _⟩ := hc 0 hl
  cases e
  cases e2
  show b ≠ g
  omega
theorem fresh_ne {B g : Nat} {v : Value} {xs : List Int} (h : Fresh B v) (hg : g < B) : ∀ a n c, 0 < xs.length → v = .slice (some a) n c → a.block ≠ g := by
  intro a n c _ e
  have := h a n c e
  omega
/-- A held list stays held while block g turns, if it does not lie there. -/
theorem Held.past {k : IntKind} {w w' : World} {v : Value} {xs : List Int} {g : Nat} (h : Held k w v xs) (hb : But g w.heap.size w w') (hne : ∀ a n c, 0 < xs.length → v = .slice (some a) n c → a.block ≠ g) : Held k w' v xs := by
  obtain ⟨ao, cap, rfl, hn, hc⟩ := h
  refine ⟨ao, cap, rfl, hn, fun i hi => ?_⟩
  obtain ⟨b, off, rfl, hlt, hcell⟩ := hc i hi
  refine ⟨b, off, rfl, by have := hb.size; omega, ?_⟩
  rw [← hcell]
  exact World.cell?_of_block (a := ⟨b, off + i, none⟩) (hb.block b hlt (hne _ _ _ (by omega) rfl))
set_option maxRecDepth 100000 in
theorem feed_new (g : Nat) (s : St) (v : Value) (p : List Int) (w : World) (hd : DecAt w g s.1 s.2.1 s.2.2) (hw : wfS s) (hh : Held .u8 w v p) (hne : ∀ a n c, 0 < p.length → v = .slice (some a) n c → a.block ≠ g) (hp : ∀ x ∈ p, 0 ≤ x ∧ x ≤ 255) (hl : p.length ≤ 100000000) :
    Calls Try.prog 77 #[.pointer (some ⟨g, 0, none⟩), v] w (SteppedF w g (feedTo s p) (feedSt s p).1 (feedSt s p).2.1 (feedSt s p).2.2) := by
  obtain ⟨ao, cap, rfl, hc⟩ := hh.view
  have HC := Lib.hid hc
  have HD := Lib.hid hd
  have HW := Lib.hid hw
  have HN := Lib.hid hne
  have HP := Lib.hid hp
  have hg := hd.lt
  clear hc hd hw hh hne hp
  go_enter Try.func77, Try.ntmps77
  go_wp2
  go_loopw [5, 12] (fun v i wr => ∃ k : Nat, k ≤ p.length ∧ i = .int .i64 k ∧ FeedRel w g s p k v wr) (fun _ i _ => p.length - (intOf i).toNat)
  case atStart => exact ⟨0, Nat.zero_le _, rfl, World.ownsRow_nil _ _ _ _, HD.out, But.refl _ _ _⟩
  case round =>
    obtain ⟨k, hk, rfl, hrel⟩ := hrel
    by_cases hlt : k < p.length
    · obtain ⟨b, off, rfl, hb, hcx⟩ := HC.out k hlt
      obtain ⟨hr1, hr2, hr3⟩ := hrel
      have hcx := (World.cell?_of_block (a := ⟨b, off + k, none⟩) (hr3.block b hb (HN.out _ _ _ (by omega) rfl))).trans hcx
      obtain ⟨x, hx⟩ : ∃ x, x = p.getD k 0 := ⟨_, rfl⟩
      have hx1 : 0 ≤ x ∧ x ≤ 255 := by
        rw [hx]
        refine HP.out _ ?_
        simp [List.getD, List.getElem?_eq_getElem hlt]
      rw [← hx] at hcx
      have HX := Lib.hid hx
      clear hx
      have hle := feedTo_len s (p.take k)
      have hle2 : (p.take k).length ≤ k := List.length_take_le _ _
      have hwk : wfS (feedSt s (p.take k)) := wfS_feed s _ HW.out (fun y hy => HP.out y (List.mem_of_mem_take hy))
      have HWK := Lib.hid hwk
      clear hwk
      go_wp2_with fail
      refine (tell_any g w.heap.size _ _ (feedTo s (p.take k)) _ _ _ x _ hr2 HWK.out hg hr1 hr3.size (by omega) hx1.1 hx1.2).mono ?_
      rintro e w1 ⟨v1, rfl, ho, hd1, hb1⟩
      have hrel1 : FeedRel w g s p (k + 1) v1 w1 := by
        refine ⟨?_, ?_, hr3.trans hb1⟩
        · rw [feedTo_take s p k hlt, ← HX.out, List.length_append]; exact ho
        · rw [feedSt_take s p k hlt, ← HX.out]; exact hd1
      clear ho hd1 hb1 hr1 hr2 hr3 hcx
      go_wp2
      go_roundw
      case rel => exact ⟨k + 1, by omega, by go_num, hrel1⟩
      case measure => simp [intOf]; omega
    · go_wp2
      go_ret
      have hkk : k = p.length := by omega
      subst hkk
      obtain ⟨hr1, hr2, hr3⟩ := hrel
      rw [List.take_length] at hr1 hr2
      exact ⟨_, rfl, held_of_owns hr1, hr2, hr3, Fresh.ofOwn hr1⟩
theorem feed_any (g : Nat) (s : St) (v : Value) (p : List Int) (w : World) (hd : DecAt w g s.1 s.2.1 s.2.2) (hw : wfS s) (hh : Held .u8 w v p) (hne : ∀ a n c, 0 < p.length → v = .slice (some a) n c → a.block ≠ g) (hp : ∀ x ∈ p, 0 ≤ x ∧ x ≤ 255) (hl : p.length ≤ 100000000) :
    Calls Try.prog 77 #[.pointer (some ⟨g, 0, none⟩), v] w (Stepped w g (feedTo s p) (feedSt s p).1 (feedSt s p).2.1 (feedSt s p).2.2) :=
  (feed_new g s v p w hd hw hh hne hp hl).mono fun _ _ ⟨v, h1, h2, h3, h4, _⟩ => ⟨v, h1, h2, h3, h4⟩
theorem feed_nil (v : Value) (w : World) : Calls Try.prog 77 #[.pointer none, v] w fun e w' => e = .returned (.slice none 0 0) ∧ w = w' := by
  go_enter Try.func77, Try.ntmps77
  go_wp2
  go_ret
  exact ⟨rfl, rfl⟩
theorem step_nil (x : Int) (w : World) : Calls Try.prog 23 #[.pointer none, .int .u8 x] w fun e w' => e = .returned (.slice none 0 0) ∧ w = w' := by
  go_enter Try.func23, Try.ntmps23
  go_wp2
  go_ret
  exact ⟨rfl, rfl⟩
end Go.Proofs.Ytgoeacmpphmnoaa
