/- Texts put together: GraO, GraT. -/
import Derived.Test.YtejiaejdpigiaaaGraN
import Derived.Test.YtejiaejdpigiaaaMg1
/- Count; the works of layer 16. -/
namespace Go.Proofs.Ytejiaejdpigiaaa
open Go.RowKit Go.ChangeShapes Go.WideShapes
theorem gcount_any (v : Value) (xs : List Int) (w : World) (hx : Held .i32 w v xs) (hn : xs.length ≤ 1000000) : Calls Try.prog 19 #[v] w (Gives w (.int .i64 (startB (jR (knownL xs)) xs.length).length)) := by
  have HS := Lib.hid (gstarts_any v xs w hx hn)
  clear hx
  go_enter Try.func19, Try.ntmps19
  go_wp2_with fail
  refine HS.out.mono ?_
  rintro e w1 ⟨v1, n, rfl, ho, b1⟩
  have hl := ho.1
  rw [List.length_map, toI_len] at hl
  obtain ⟨a1, c1, rfl⟩ := (ownE_ints (Z := fun _ => True) ho).held (Z := fun _ => True) (fun _ _ _ => trivial) |>.len
  have HB := Lib.hid b1
  have HL := Lib.hid (toI_len (startB (jR (knownL xs)) xs.length))
  clear ho b1 hl
  go_wp2
  go_ret
  exact ⟨ret_eq (by rw [HL.out]; try rfl), HB.out⟩
theorem clu_first : cluA [101, 769, 97] = [[101, 769], [97]] := by decide +kernel
theorem count_flags : (startB (jR (knownL [127465, 127466, 127467])) 3).length = 2 := by decide +kernel
set_option maxRecDepth 100000 in
set_option maxHeartbeats 1600000 in
theorem works16_any (w : World) : Calls Try.prog 14 #[] w (Yes w) := by
  have hb1 := (Below.refl w.heap.size w).alloc (Nat.le_refl _) (.cells #[.int .i32 101, .int .i32 769, .int .i32 97] 21)
  have HB1 := Lib.hid hb1
  have h1 := gclus_any (.slice (some ⟨w.heap.size, 0, none⟩) 3 3) [101, 769, 97] _ (held_new .i32 w [.int .i32 101, .int .i32 769, .int .i32 97] 21 3 3 [101, 769, 97] rfl rfl) (by decide)
  rw [clu_first] at h1
  have H1 := Lib.hid h1
  clear hb1 h1
  go_enter Try.func14, Try.ntmps14
  go_wp2_with fail
  refine H1.out.mono ?_
  rintro e w1 ⟨v1, rfl, ho1, b1⟩
  have B1 := Lib.hid (HB1.out.trans (b1.mono HB1.out.size))
  have hh := ho1.held (fun b h _ => h)
  obtain ⟨a1, c1, rfl, _, _, _, hc⟩ := id hh
  obtain ⟨b, off, rfl, hb, _, C, hC, tv, rfl, ht⟩ := hc 0 (by decide)
  obtain ⟨a2, c2, rfl⟩ := ht.len
  have c0 : w1.cell? ⟨b, off, none⟩ = some (.slice a2 2 c2) := by have := hC 0 (by decide); simpa using this
  have hcap : 0 < c1 := by obtain ⟨_, hq, _⟩ := hh.spots; simp at hq; omega
  have HA := Lib.hid (gall_any (.slice none 0 0) [] w1 (Held.nil _ _) (by decide))
  clear ho1 b1 hh hc hC ht H1 HB1
  go_wp2_with fail
  refine HA.out.mono ?_
  rintro e w2 ⟨B, vk, rfl, _, _, b2, _⟩
  have B2 := Lib.hid (B1.out.trans (b2.mono B1.out.size))
  have hb3 := (Below.refl w2.heap.size w2).alloc (Nat.le_refl _) (.cells #[.int .i32 127465, .int .i32 127466, .int .i32 127467] 21)
  have B3 := Lib.hid (B2.out.trans (hb3.mono B2.out.size))
  have h3 := gcount_any (.slice (some ⟨w2.heap.size, 0, none⟩) 3 3) [127465, 127466, 127467] _ (held_new .i32 w2 [.int .i32 127465, .int .i32 127466, .int .i32 127467] 21 3 3 [127465, 127466, 127467] rfl rfl) (by decide)
  rw [show ([127465, 127466, 127467] : List Int).length = 3 from rfl, count_flags] at h3
  have H3 := Lib.hid h3
  have hrun : Sem.run Try.prog (binOp BinOp.neq 34 (.func (.func 56) #[] #[.pointer (some ⟨B, 0, none⟩)]) .nilFunc) w2 = .ok (.bool true) w2 := by kernel_rfl
  clear b2 hb3 h3 HA
  go_wp2_with fail
  refine H3.out.mono ?_
  rintro e w3 ⟨rfl, b3⟩
  have HF := Lib.hid (B3.out.trans (b3.mono B3.out.size))
  clear b3 H3
  go_wp2
  go_ret
  exact ⟨(ret_eq (by first | rfl | (simp <;> omega))), HF.out⟩
end Go.Proofs.Ytejiaejdpigiaaa
/- Rows of numbers that are arguments. -/
namespace Go.Proofs.Ytejiaejdpigiaaa
open Go.RowKit Go.ChangeShapes Go.WideShapes
theorem bounds_of {xs : List Int} (hp : ∀ x ∈ xs, (Lit.int .i32 x).wf = true) : bounds32 xs := by
  intro i hi
  have hm : xs.getD i 0 ∈ xs := by simp [List.getD, List.getElem?_eq_getElem hi]
  have hw := hp _ hm
  simp [Lit.wf] at hw
  exact hw
set_option maxRecDepth 100000 in
theorem runes_arg {H : Type} {enc : TypeId × Value → H} {W : World} {base : Nat} {v : Value} {d : DataW H} {p : List MemPlace} (hv : Value.okWide Try.prog W .any base 22 v) (h : DataW.Trod enc Try.prog W 0 (fun _ => true) true 22 v d p) : ∃ L, HeldE (intE .i32) (fun b => b < W.heap.size) W v L ∧ bounds32 L := by
  obtain ⟨L, hL, hk⟩ := opens_arg (E := intE .i32) Try.underlying22 (by kernel_rfl) (by decide) (opens_int Try.underlying21 (by kernel_rfl)) hv h
  exact ⟨L, hL, bounds_of hk⟩
end Go.Proofs.Ytejiaejdpigiaaa
