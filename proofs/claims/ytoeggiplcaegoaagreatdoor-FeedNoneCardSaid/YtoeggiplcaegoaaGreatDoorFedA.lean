/- utfdec's methods upon a feeder's block. -/
import Derived.Test.YtoeggiplcaegoaaGreatDoorUtfdecC
import Derived.Test.YtoeggiplcaegoaaGreatDoorMg3
import Derived.Test.YtoeggiplcaegoaaGreatDoorMg4
namespace Go.Proofs.YtoeggiplcaegoaaGreatDoor
open Go.RowKit Go.ChangeShapes Go.WideShapes
/-- What a feeder's block holds beside its decoder. -/
structure FX where
  gp : Nat
  tl : Bool
  la : Int
  cj : Int
  pi : Int
  od : Bool
  op : Value
def fxL (X : FX) (l b h : Int) : List Value := [.pointer (some ⟨X.gp, 0, none⟩), .int .u8 l, .int .i32 b, .int .i64 h, .bool X.tl, .int .i64 X.la, .int .u8 X.cj, .int .u8 X.pi, .bool X.od, X.op]
def FDec (X : FX) (w : World) (g : Nat) (l b h : Int) : Prop := Has w g (fxL X l b h) 143
section
variable {X : FX}
theorem fd_held_any (g : Nat) (l b h : Int) (w : World) (hd : FDec X w g l b h) : Calls Tryz.prog 84 #[.pointer (some ⟨g, 1, none⟩)] w fun e w' => e = .returned (.int .i64 h) ∧ w = w' := by
  have c2 := hd.cell 3 _ rfl
  go_enter Tryz.func84, Tryz.ntmps84
  go_wp2
  go_ret
  exact ⟨rfl, rfl⟩
/-- A decoder that has just been flushed. -/
def fd_Flushed (X : FX) (w : World) (g : Nat) (e : Ending) (w' : World) : Prop := ∃ v, e = .returned v ∧ Held .i32 w' v [65533] ∧ FDec X w' g 0 0 0 ∧ But g w.heap.size w w'
theorem FDec.zero {w : World} {g : Nat} {l b h : Int} (hd : FDec X w g l b h) : FDec X (((w.setCell ⟨g, 1, none⟩ (.int .u8 0)).setCell ⟨g, 2, none⟩ (.int .i32 0)).setCell ⟨g, 3, none⟩ (.int .i64 0)) g 0 0 0 :=
  ((hd.set 1 _).set 2 _).set 3 _
theorem fd_zero_but (w : World) (g : Nat) (x y z : Value) : But g w.heap.size w (((w.setCell ⟨g, 1, none⟩ x).setCell ⟨g, 2, none⟩ y).setCell ⟨g, 3, none⟩ z) :=
  (((But.refl _ _ _).set 1 _).set 2 _).set 3 _
theorem fd_flush_some (g : Nat) (l b h : Int) (w : World) (hd : FDec X w g l b h) (hh : 0 < h) : Calls Tryz.prog 82 #[.pointer (some ⟨g, 1, none⟩)] w (fd_Flushed X w g) := by
  have HD := Lib.hid hd
  have c0 := hd.cell 1 _ rfl
  have c1 := hd.cell 2 _ rfl
  have c2 := hd.cell 3 _ rfl
  have f0 := hd.free 1
  have f1 := hd.free 2
  have f2 := hd.free 3
  have hl := hd.lt
  have t1 : (h == 0) = false := by simp; omega
  clear hd
  go_enter Tryz.func82, Tryz.ntmps82
  go_wp2_with fail
  refine (fd_held_any g l b h _ HD.out).mono ?_
  rintro e w' ⟨rfl, rfl⟩
  go_wp2
  go_ret
  refine ⟨_, rfl, held_newAt .i32 _ _ [.int .i32 65533] 21 1 1 [65533] (by simp) rfl rfl, (HD.out.zero).alloc _, (fd_zero_but w g _ _ _).alloc (Nat.le_refl _) _⟩
theorem fd_next_any (g : Nat) (l b h x : Int) (w : World) (hd : FDec X w g l b h) (l0 : 0 ≤ l) (l1 : l ≤ 255) (x0 : 0 ≤ x) (x1 : x ≤ 255) : Calls Tryz.prog 204 #[.pointer (some ⟨g, 1, none⟩), .int .u8 x] w fun e w' => e = .returned (.bool (nextB l h x)) ∧ w = w' := by
  have c0 := hd.cell 1 _ rfl
  have c2 := hd.cell 3 _ rfl
  clear hd
  by_cases h1 : 1 < h
  · rw [show nextB l h x = tailO x from by unfold nextB; rw [if_pos h1]]
    go_enter Tryz.func204, Tryz.ntmps204
    go_wp2_with fail
    refine (tail_any x _ x0 x1).mono ?_
    rintro e w' ⟨rfl, rfl⟩
    go_wp2
    go_ret
    exact ⟨rfl, rfl⟩
  · have hs : nextB l h x = (decide (lo2 l ≤ x) && decide (x ≤ hi2 l)) := by unfold nextB; rw [if_neg h1]
    have HS := Lib.hid hs
    clear hs
    by_cases h2 : lo2 l ≤ x
    · go_enter Tryz.func204, Tryz.ntmps204
      go_wp2_with fail
      refine (second_any l _ l0 l1).mono ?_
      rintro e w' ⟨rfl, rfl⟩
      go_wp2
      go_ret
      exact ⟨ret_eq (by rw [HS.out]; simp [h2]), rfl⟩
    · go_enter Tryz.func204, Tryz.ntmps204
      go_wp2_with fail
      refine (second_any l _ l0 l1).mono ?_
      rintro e w' ⟨rfl, rfl⟩
      go_wp2
      go_ret
      exact ⟨ret_eq (by rw [HS.out]; simp; omega), rfl⟩
/-- What is told, and the decoder's state behind it. -/
def fd_Told (X : FX) (B : Nat) (w : World) (g : Nat) (n : Nat) (xs : List Int) (l b h : Int) (e : Ending) (w' : World) : Prop :=
  ∃ v', e = .returned v' ∧ w'.ownsRow B 21 1 v' n (xs.map (Value.int .i32)) ∧ FDec X w' g l b h ∧ But g B w w'
set_option maxRecDepth 100000 in
theorem fd_begin_any (g B : Nat) (v : Value) (n : Nat) (xs : List Int) (x : Int) (w : World) (hd : FDec X w g 0 0 0) (hg : g < B) (hown : w.ownsRow B 21 1 v n (xs.map (Value.int .i32))) (hB : B ≤ w.heap.size) (hn : n ≤ 1000000000) (x0 : 0 ≤ x) (x1 : x ≤ 255) :
    Calls Tryz.prog 205 #[.pointer (some ⟨g, 1, none⟩), v, .int .u8 x] w (fd_Told X B w g (n + (beginT x).length) (xs ++ beginT x) (beginL x) (beginBt x) (beginH x)) := by
  have HD := Lib.hid hd
  have c0 := hd.cell 1 _ rfl
  have c1 := hd.cell 2 _ rfl
  have c2 := hd.cell 3 _ rfl
  have f0 := hd.free 1
  have f1 := hd.free 2
  have f2 := hd.free 3
  have hl := hd.lt
  clear hd
  rcases lead_cases x with ⟨h2, hs⟩ | ⟨h2, h3, hs⟩ | ⟨h2, h3, hs⟩ | ⟨h2, h3, hs⟩ | ⟨h2, h3, hs⟩ | ⟨h2, hs⟩
  · rw [show beginT x = [x] from by simp [beginT, hs], show beginL x = 0 from by simp [beginL, hs], show beginBt x = 0 from by simp [beginBt, hs], show beginH x = 0 from by simp [beginH, hs]]
    have HS := Lib.hid hs
    clear hs
    go_enter Tryz.func205, Tryz.ntmps205
    go_wp2_with fail
    refine (lead_any x _ x0 x1).mono ?_
    rintro e w' ⟨rfl, rfl⟩
    rw [HS.out]
    go_wp2_with (at_builtin; refine wpList_append_new w rfl (.tmp 16) (.tmp 19) 27 rfl B 21 (.int .i32 0) 4 Tryz.underlying27 Tryz.info21 rfl v n (xs.map (Value.int .i32)) rfl hown [.int .i32 x] 1 1 rfl rfl (by intro u hu; simp at hu; rcases hu with rfl <;> rfl) (by omega) (by omega) hB ?_)
    intro v' w' hown' hb
    clear hown
    go_wp2
    go_ret
    exact ⟨v', rfl, by simpa using hown', HD.out.below hb hg, .ofBelow hb⟩
  · rw [show beginT x = [65533] from by simp [beginT, hs], show beginL x = 0 from by simp [beginL, hs], show beginBt x = 0 from by simp [beginBt, hs], show beginH x = 0 from by simp [beginH, hs]]
    have HS := Lib.hid hs
    clear hs
    go_enter Tryz.func205, Tryz.ntmps205
    go_wp2_with fail
    refine (lead_any x _ x0 x1).mono ?_
    rintro e w' ⟨rfl, rfl⟩
    rw [HS.out]
    go_wp2_with (at_builtin; refine wpList_append_new w rfl (.tmp 11) (.tmp 12) 27 rfl B 21 (.int .i32 0) 4 Tryz.underlying27 Tryz.info21 rfl v n (xs.map (Value.int .i32)) rfl hown [.int .i32 65533] 1 1 rfl rfl (by intro u hu; simp at hu; rcases hu with rfl <;> rfl) (by omega) (by omega) hB ?_)
    intro v' w' hown' hb
    clear hown
    go_wp2
    go_ret
    exact ⟨v', rfl, by simpa using hown', HD.out.below hb hg, .ofBelow hb⟩
  · rw [show beginT x = [] from by simp [beginT, hs], show beginL x = x from by simp [beginL, hs], show beginBt x = bitsI x from by simp [beginBt, hs], show beginH x = 1 from by simp [beginH, hs]]
    have hbi : 0 ≤ bitsI x ∧ bitsI x ≤ 255 := by unfold bitsI; rw [hs]; simp; omega
    have HS := Lib.hid hs
    clear hs
    go_enter Tryz.func205, Tryz.ntmps205
    go_wp2_with fail
    refine (lead_any x _ x0 x1).mono ?_
    rintro e w' ⟨rfl, rfl⟩
    rw [HS.out]
    go_wp2_with fail
    refine (bits_any x _ x0 x1).mono ?_
    rintro e w' ⟨rfl, rfl⟩
    go_wp2
    go_ret
    exact ⟨v, rfl, by simpa using own_but hown (fd_zero_but w g _ _ _) hg, ((HD.out.set 1 _).set 2 _).set 3 _, (fd_zero_but w g _ _ _).mono hB⟩
  · rw [show beginT x = [] from by simp [beginT, hs], show beginL x = x from by simp [beginL, hs], show beginBt x = bitsI x from by simp [beginBt, hs], show beginH x = 1 from by simp [beginH, hs]]
    have hbi : 0 ≤ bitsI x ∧ bitsI x ≤ 255 := by unfold bitsI; rw [hs]; simp; omega
    have HS := Lib.hid hs
    clear hs
    go_enter Tryz.func205, Tryz.ntmps205
    go_wp2_with fail
    refine (lead_any x _ x0 x1).mono ?_
    rintro e w' ⟨rfl, rfl⟩
    rw [HS.out]
    go_wp2_with fail
    refine (bits_any x _ x0 x1).mono ?_
    rintro e w' ⟨rfl, rfl⟩
    go_wp2
    go_ret
    exact ⟨v, rfl, by simpa using own_but hown (fd_zero_but w g _ _ _) hg, ((HD.out.set 1 _).set 2 _).set 3 _, (fd_zero_but w g _ _ _).mono hB⟩
  · rw [show beginT x = [] from by simp [beginT, hs], show beginL x = x from by simp [beginL, hs], show beginBt x = bitsI x from by simp [beginBt, hs], show beginH x = 1 from by simp [beginH, hs]]
    have hbi : 0 ≤ bitsI x ∧ bitsI x ≤ 255 := by unfold bitsI; rw [hs]; simp; omega
    have HS := Lib.hid hs
    clear hs
    go_enter Tryz.func205, Tryz.ntmps205
    go_wp2_with fail
    refine (lead_any x _ x0 x1).mono ?_
    rintro e w' ⟨rfl, rfl⟩
    rw [HS.out]
    go_wp2_with fail
    refine (bits_any x _ x0 x1).mono ?_
    rintro e w' ⟨rfl, rfl⟩
    go_wp2
    go_ret
    exact ⟨v, rfl, by simpa using own_but hown (fd_zero_but w g _ _ _) hg, ((HD.out.set 1 _).set 2 _).set 3 _, (fd_zero_but w g _ _ _).mono hB⟩
  · rw [show beginT x = [65533] from by simp [beginT, hs], show beginL x = 0 from by simp [beginL, hs], show beginBt x = 0 from by simp [beginBt, hs], show beginH x = 0 from by simp [beginH, hs]]
    have HS := Lib.hid hs
    clear hs
    go_enter Tryz.func205, Tryz.ntmps205
    go_wp2_with fail
    refine (lead_any x _ x0 x1).mono ?_
    rintro e w' ⟨rfl, rfl⟩
    rw [HS.out]
    go_wp2_with (at_builtin; refine wpList_append_new w rfl (.tmp 11) (.tmp 12) 27 rfl B 21 (.int .i32 0) 4 Tryz.underlying27 Tryz.info21 rfl v n (xs.map (Value.int .i32)) rfl hown [.int .i32 65533] 1 1 rfl rfl (by intro u hu; simp at hu; rcases hu with rfl <;> rfl) (by omega) (by omega) hB ?_)
    intro v' w' hown' hb
    clear hown
    go_wp2
    go_ret
    exact ⟨v', rfl, by simpa using hown', HD.out.below hb hg, .ofBelow hb⟩
set_option maxRecDepth 100000 in
theorem fd_tell_begin (g B : Nat) (v : Value) (n : Nat) (xs : List Int) (x : Int) (w : World) (hd : FDec X w g 0 0 0) (hg : g < B) (hown : w.ownsRow B 21 1 v n (xs.map (Value.int .i32))) (hB : B ≤ w.heap.size) (hn : n ≤ 1000000000) (x0 : 0 ≤ x) (x1 : x ≤ 255) :
    Calls Tryz.prog 151 #[.pointer (some ⟨g, 1, none⟩), v, .int .u8 x] w (fd_Told X B w g (n + (beginT x).length) (xs ++ beginT x) (beginL x) (beginBt x) (beginH x)) := by
  have HD := Lib.hid hd
  have c2 := hd.cell 3 _ rfl
  clear hd
  go_enter Tryz.func151, Tryz.ntmps151
  go_wp2_with fail
  refine (fd_begin_any g B v n xs x _ HD.out hg hown hB hn x0 x1).mono ?_
  rintro e w1 ⟨v1, rfl, ho, hd, hb⟩
  clear hown
  go_wp2
  go_ret
  exact ⟨v1, rfl, ho, hd, hb⟩
theorem fd_two_but (w : World) (g : Nat) (y z : Value) : But g w.heap.size w ((w.setCell ⟨g, 2, none⟩ y).setCell ⟨g, 3, none⟩ z) := ((But.refl _ _ _).set 2 _).set 3 _
set_option maxRecDepth 100000 in
theorem fd_tell_on (g B : Nat) (v : Value) (n : Nat) (xs : List Int) (l b h x : Int) (w : World) (hd : FDec X w g l b h) (l0 : 0 ≤ l) (l1 : l ≤ 255) (h0 : 1 ≤ h) (h1 : h ≤ 4) (b0 : 0 ≤ b) (b1 : b < 32768) (hx : nextB l h x = true) (hg : g < B) (hown : w.ownsRow B 21 1 v n (xs.map (Value.int .i32))) (hB : B ≤ w.heap.size) (hn : n ≤ 1000000000) (x0 : 0 ≤ x) (x1 : x ≤ 255) (hm : h + 1 < leadI l) :
    Calls Tryz.prog 151 #[.pointer (some ⟨g, 1, none⟩), v, .int .u8 x] w (fd_Told X B w g n xs l (b * 64 + x % 64) (h + 1)) := by
  have HD := Lib.hid hd
  have c0 := hd.cell 1 _ rfl
  have c1 := hd.cell 2 _ rfl
  have c2 := hd.cell 3 _ rfl
  have f1 := hd.free 2
  have f2 := hd.free 3
  have hl := hd.lt
  have t1 : (h == 0) = false := by simp; omega
  have e1 := u8_and63 x x0 x1
  have e2 := i32_join (b * 64) (x % 64) (by omega) (by omega) (by omega) (by omega) (by omega)
  have HN := Lib.hid hx
  clear hd hx
  go_enter Tryz.func151, Tryz.ntmps151
  go_wp2_with fail
  refine (fd_next_any g l b h x _ HD.out l0 l1 x0 x1).mono ?_
  rintro e w' ⟨rfl, rfl⟩
  rw [HN.out]
  go_wp2
  go_quiet ((go_at_call 206; exact callq (lead_any l _ l0 l1)))
  go_wp2
  go_ret
  exact ⟨v, rfl, own_but hown ((fd_two_but w g _ _).drewN nq) hg, ((HD.out.set 2 _).set 3 _).drewN nq, ((fd_two_but w g _ _).drewN nq).mono hB⟩
set_option maxRecDepth 100000 in
theorem fd_tell_whole (g B : Nat) (v : Value) (n : Nat) (xs : List Int) (l b h x : Int) (w : World) (hd : FDec X w g l b h) (l0 : 0 ≤ l) (l1 : l ≤ 255) (h0 : 1 ≤ h) (h1 : h ≤ 4) (b0 : 0 ≤ b) (b1 : b < 32768) (hx : nextB l h x = true) (hg : g < B) (hown : w.ownsRow B 21 1 v n (xs.map (Value.int .i32))) (hB : B ≤ w.heap.size) (hn : n ≤ 1000000000) (x0 : 0 ≤ x) (x1 : x ≤ 255) (hm : ¬ h + 1 < leadI l) :
    Calls Tryz.prog 151 #[.pointer (some ⟨g, 1, none⟩), v, .int .u8 x] w (fd_Told X B w g (n + 1) (xs ++ [b * 64 + x % 64]) 0 0 0) := by
  have HD := Lib.hid hd
  have c0 := hd.cell 1 _ rfl
  have c1 := hd.cell 2 _ rfl
  have c2 := hd.cell 3 _ rfl
  have f1 := hd.free 2
  have f2 := hd.free 3
  have hl := hd.lt
  have t1 : (h == 0) = false := by simp; omega
  have e1 := u8_and63 x x0 x1
  have e2 := i32_join (b * 64) (x % 64) (by omega) (by omega) (by omega) (by omega) (by omega)
  have HN := Lib.hid hx
  clear hd hx
  go_enter Tryz.func151, Tryz.ntmps151
  go_wp2_with fail
  refine (fd_next_any g l b h x _ HD.out l0 l1 x0 x1).mono ?_
  rintro e w' ⟨rfl, rfl⟩
  rw [HN.out]
  go_wp2
  go_quiet ((go_at_call 206; exact callq (lead_any l _ l0 l1)))
  have ho2 := own_but hown ((fd_two_but w g (.int .i32 (b * 64 + x % 64)) (.int .i64 (h + 1))).drewN nq) hg
  have hd2 := ((HD.out.set 2 (.int .i32 (b * 64 + x % 64))).set 3 (.int .i64 (h + 1))).drewN nq
  have hb2 := ((fd_two_but w g (.int .i32 (b * 64 + x % 64)) (.int .i64 (h + 1))).drewN nq).mono hB
  have hB2 := Nat.le_trans hB hb2.size
  generalize (((w.setCell ⟨g, 2, none⟩ (.int .i32 (b * 64 + x % 64))).setCell ⟨g, 3, none⟩ (.int .i64 (h + 1))).drewN nq) = w2 at *
  have c1 := hd2.cell 2 _ rfl
  clear c0 c2 f1 f2 hown
  go_wp2_with (at_builtin; refine wpList_append_new w2 rfl (.tmp 61) (.tmp 66) 27 rfl B 21 (.int .i32 0) 4 Tryz.underlying27 Tryz.info21 rfl v n (xs.map (Value.int .i32)) rfl ho2 [.int .i32 (b * 64 + x % 64)] 1 1 rfl rfl (by intro u hu; simp at hu; rcases hu with rfl <;> rfl) (by omega) (by omega) hB2 ?_)
  intro v' w' hown' hb
  have hd3 := hd2.below hb hg
  have c0 := hd3.cell 1 _ rfl
  have c1 := hd3.cell 2 _ rfl
  have c2 := hd3.cell 3 _ rfl
  have f0 := hd3.free 1
  have f1 := hd3.free 2
  have f2 := hd3.free 3
  have hd4 := ((hd3.set 1 (.int .u8 0)).set 2 (.int .i32 0)).set 3 (.int .i64 0)
  have hb4 := (hb2.trans (.ofBelow hb)).trans ((fd_zero_but w' g (.int .u8 0) (.int .i32 0) (.int .i64 0)).mono (Nat.le_trans hB2 hb.size))
  have ho4 := own_but hown' (fd_zero_but w' g (.int .u8 0) (.int .i32 0) (.int .i64 0)) hg
  clear ho2 hown' hd2 hd3 hb2 hb
  go_wp2
  go_ret
  exact ⟨v', rfl, by simpa using ho4, hd4, hb4⟩
set_option maxRecDepth 100000 in
theorem fd_tell_not (g B : Nat) (v : Value) (n : Nat) (xs : List Int) (l b h x : Int) (w : World) (hd : FDec X w g l b h) (l0 : 0 ≤ l) (l1 : l ≤ 255) (h0 : 1 ≤ h) (h1 : h ≤ 4) (hx : nextB l h x = false) (hg : g < B) (hown : w.ownsRow B 21 1 v n (xs.map (Value.int .i32))) (hB : B ≤ w.heap.size) (hn : n ≤ 1000000000 - 1) (x0 : 0 ≤ x) (x1 : x ≤ 255) :
    Calls Tryz.prog 151 #[.pointer (some ⟨g, 1, none⟩), v, .int .u8 x] w (fd_Told X B w g (n + 1 + (beginT x).length) ((xs ++ [65533]) ++ beginT x) (beginL x) (beginBt x) (beginH x)) := by
  have HD := Lib.hid hd
  have c2 := hd.cell 3 _ rfl
  have HN := Lib.hid hx
  clear hd hx
  go_enter Tryz.func151, Tryz.ntmps151
  go_wp2_with fail
  refine (fd_next_any g l b h x _ HD.out l0 l1 x0 x1).mono ?_
  rintro e w' ⟨rfl, rfl⟩
  rw [HN.out]
  go_wp2_with fail
  refine (fd_flush_some g l b h _ HD.out (by omega)).mono ?_
  rintro e w1 ⟨v1, rfl, hh1, hd1, hb1⟩
  have ho1 := own_but hown hb1 hg
  have hB1 := Nat.le_trans hB hb1.size
  clear hown c2
  go_wp2_with (at_builtin; refine wpList_append_held w1 rfl (.tmp 18) (.tmp 20) 27 rfl B 21 (.int .i32 0) 4 Tryz.underlying27 Tryz.info21 rfl .i32 v n xs rfl ho1 v1 [65533] rfl hh1 (by simp; omega) (by simp; omega) hB1 ?_)
  intro v2 w2 ho2 hb2
  have hd2 := hd1.below hb2 hg
  have c2 := hd2.cell 3 _ rfl
  have hbb := (hb1.mono hB).trans (.ofBelow hb2)
  have hB2 := Nat.le_trans hB1 hb2.size
  clear ho1 hd1 hb1 hb2 hh1
  go_wp2_with fail
  refine (fd_begin_any g B v2 (n + 1) (xs ++ [65533]) x _ hd2 hg (by rw [List.map_append]; exact ho2) hB2 (by omega) x0 x1).mono ?_
  rintro e w3 ⟨v3, rfl, ho, hd, hb⟩
  clear ho2
  go_wp2
  go_ret
  exact ⟨v3, rfl, ho, hd, hbb.trans hb⟩
theorem fd_tell_any (g B : Nat) (v : Value) (n : Nat) (xs : List Int) (l b h x : Int) (w : World) (hd : FDec X w g l b h) (hw : wfD l b h) (hg : g < B) (hown : w.ownsRow B 21 1 v n (xs.map (Value.int .i32))) (hB : B ≤ w.heap.size) (hn : n ≤ 1000000000 - 1) (x0 : 0 ≤ x) (x1 : x ≤ 255) :
    Calls Tryz.prog 151 #[.pointer (some ⟨g, 1, none⟩), v, .int .u8 x] w (fd_Told X B w g (n + (tellT l b h x).length) (xs ++ tellT l b h x) (tellL l h x) (tellBt l b h x) (tellH l h x)) := by
  rcases hw with ⟨rfl, rfl, rfl⟩ | ⟨l0, l1, h0, h1, b0, b1⟩
  · exact fd_tell_begin g B v n xs x w hd hg hown hB (by omega) x0 x1
  · have hl4 := leadI_le l
    have hm := mxD_le (leadI l) h
    have hne : ¬ h = 0 := by omega
    cases hx : nextB l h x with
    | true =>
      by_cases hm2 : h + 1 < leadI l
      · have e1 : tellT l b h x = [] := by unfold tellT; rw [if_neg hne, if_pos hx, if_pos hm2]
        have e2 : tellL l h x = l := by unfold tellL; rw [if_neg hne, if_pos hx, if_pos hm2]
        have e3 : tellBt l b h x = b * 64 + x % 64 := by unfold tellBt; rw [if_neg hne, if_pos hx, if_pos hm2]
        have e4 : tellH l h x = h + 1 := by unfold tellH; rw [if_neg hne, if_pos hx, if_pos hm2]
        rw [e1, e2, e3, e4]
        simpa using fd_tell_on g B v n xs l b h x w hd l0 l1 h0 (by omega) b0 (by omega) hx hg hown hB (by omega) x0 x1 hm2
      · have e1 : tellT l b h x = [b * 64 + x % 64] := by unfold tellT; rw [if_neg hne, if_pos hx, if_neg hm2]
        have e2 : tellL l h x = 0 := by unfold tellL; rw [if_neg hne, if_pos hx, if_neg hm2]
        have e3 : tellBt l b h x = 0 := by unfold tellBt; rw [if_neg hne, if_pos hx, if_neg hm2]
        have e4 : tellH l h x = 0 := by unfold tellH; rw [if_neg hne, if_pos hx, if_neg hm2]
        rw [e1, e2, e3, e4]
        exact fd_tell_whole g B v n xs l b h x w hd l0 l1 h0 (by omega) b0 (by omega) hx hg hown hB (by omega) x0 x1 hm2
    | false =>
      have hxf : ¬ nextB l h x = true := by rw [hx]; simp
      have e1 : tellT l b h x = 65533 :: beginT x := by unfold tellT; rw [if_neg hne, if_neg hxf]
      have e2 : tellL l h x = beginL x := by unfold tellL; rw [if_neg hne, if_neg hxf]
      have e3 : tellBt l b h x = beginBt x := by unfold tellBt; rw [if_neg hne, if_neg hxf]
      have e4 : tellH l h x = beginH x := by unfold tellH; rw [if_neg hne, if_neg hxf]
      rw [e1, e2, e3, e4]
      have := fd_tell_not g B v n xs l b h x w hd l0 l1 h0 (by omega) hx hg hown hB hn x0 x1
      rw [List.length_cons, show n + ((beginT x).length + 1) = n + 1 + (beginT x).length from by omega]
      simpa using this
/-- Step: what is told of a byte. -/
def fd_Stepped (X : FX) (w : World) (g : Nat) (xs : List Int) (l b h : Int) (e : Ending) (w' : World) : Prop :=
  ∃ v', e = .returned v' ∧ HeldE (intE .i32) (fun b => w.heap.size ≤ b) w' v' xs ∧ FDec X w' g l b h ∧ But g w.heap.size w w'
theorem fd_dstep_any (g : Nat) (l b h x : Int) (w : World) (hd : FDec X w g l b h) (hw : wfD l b h) (x0 : 0 ≤ x) (x1 : x ≤ 255) :
    Calls Tryz.prog 80 #[.pointer (some ⟨g, 1, none⟩), .int .u8 x] w (fd_Stepped X w g (tellT l b h x) (tellL l h x) (tellBt l b h x) (tellH l h x)) := by
  have HD := Lib.hid hd
  have hg := hd.lt
  have HW := Lib.hid hw
  clear hd hw
  go_enter Tryz.func80, Tryz.ntmps80
  go_wp2_with fail
  refine (fd_tell_any g w.heap.size (.slice none 0 0) 0 [] l b h x _ HD.out HW.out hg (World.ownsRow_nil _ _ _ _) (Nat.le_refl _) (by omega) x0 x1).mono ?_
  rintro e w1 ⟨v1, rfl, ho, hd, hb⟩
  have hh := HeldE.ownedInts ho
  clear ho
  go_wp2
  go_ret
  exact ⟨v1, rfl, by simpa using hh, hd, hb⟩
end
end Go.Proofs.YtoeggiplcaegoaaGreatDoor
