/- Contracts of utfall: All. -/
import Derived.Test.YtgoeacmpphmnoaaUallF
namespace Go.Proofs.Ytgoeacmpphmnoaa
open Go.RowKit Go.ChangeShapes Go.WideShapes
/-- An append that tells of each block that is not the row's own. -/
theorem wpList_append_newK {P : Program} (w0 : World) {ops : Array Oper} {rest : List Oper} {o : Oper} {a : Act} {Q : Exit → Act → World → Prop} (hgd : o.guard = none) (s x : Operand) (t : TypeId)
    (ho : o.op = .call { callee := .builtin .append, args := #[s, x], argTypes := #[t, t] })
    (base : Nat) (e : TypeId) (z : Value) (size bytes : Nat) (ht : P.underlying t = some (.slice e)) (hinfo : (P.info? e).map (fun i => (i.zero, i.size, i.bytes)) = some (some z, size, bytes)) (hzs : z.cells.size = size) (hsz : 0 < size)
    (v : Value) (n : Nat) (xs : List Value) (hs : a.eval s = v) (hown : w0.ownsRow base e size v n xs)
    (C : List Value) (m c N : Nat) (hN : w0.heap.size = N) (hx : a.eval x = .slice (some ⟨N, 0, none⟩) m c) (hl : C.length = m * size) (h1 : ∀ u ∈ C, u.oneCell' = true)
    (hbytes : (n + m) * bytes ≤ 140737488355328) (hb0 : n + m ≤ 140737488355328) (hbase : base ≤ w0.heap.size)
    (h : ∀ v' w', w'.ownsRow base e size v' (n + m) (xs ++ C) → Below base w0 w' → (∀ g, g < w0.heap.size → v.ownBlock ≠ some g → w'.heap[g]? = w0.heap[g]?) → wpList P ops Q rest (a.put o.dst v') w') :
    wpList P ops Q (o :: rest) a (w0.alloc (.cells C.toArray e)) := by
  subst hN
  obtain ⟨i0, hi, hz0, hz1, hz2⟩ := info_parts hinfo
  refine wpList_append_own _ hgd s x t ho base e i0 z size bytes ht hi hz0 hz1 hz2 hzs hsz v n xs hs (hown.alloc _) ⟨w0.heap.size, 0, none⟩ m c C hx (by omega) (new_cells w0 C e) h1 (by unfold maxLen; omega) hbytes (by simp; omega) ?_
  intro v' w' hown' hgrow _
  refine h v' w' hown' (((Below.refl base w0).alloc hbase _).grown hgrow (by simp; omega) fun k hk => ((hown.alloc (.cells C.toArray e)).lt k hk).1) fun g hg hne => ?_
  exact (hgrow.block g (by simp; omega) (fun e => hne e.symm)).trans (((Below.refl w0.heap.size w0).alloc (Nat.le_refl _) (.cells C.toArray e)).block g hg)
def AllOk (w : World) (xs : List Int) (e : Ending) (w' : World) : Prop := ∃ k v', e = .returned v' ∧ posN xs k = xs.length ∧ w'.ownsRow w.heap.size 32 5 v' k (gotsCells (partsN xs k)) ∧ Below w.heap.size w w'
set_option maxRecDepth 100000 in
set_option maxHeartbeats 1000000 in
theorem all_any (v : Value) (xs : List Int) (w : World) (hv : Held .u8 w v xs) (hcp : CapOk v) (hm : xs.length ≤ 1000000) (hr : ∀ i, i < xs.length → 0 ≤ xs.getD i 0 ∧ xs.getD i 0 ≤ 255) :
    Calls Try.prog 15 #[v] w (AllOk w xs) := by
  obtain ⟨ao, cap, rfl, _⟩ := id hv.view
  have HV := Lib.hid hv
  have HC := Lib.hid hcp
  have HR := Lib.hid hr
  clear hv hcp hr
  go_enter Try.func15, Try.ntmps15
  go_wp2
  go_loopw [3, 4] (fun l p wr => ∃ k q : Nat, posN xs k = q ∧ k ≤ q ∧ q ≤ xs.length ∧ p = .int .i64 q ∧ wr.ownsRow w.heap.size 32 5 l k (gotsCells (partsN xs k)) ∧ Below w.heap.size w wr) (fun _ p _ => xs.length - (intOf p).toNat)
  case atStart => exact ⟨0, 0, rfl, Nat.zero_le _, Nat.zero_le _, rfl, World.ownsRow_nil _ _ _ _, Below.refl _ _⟩
  case round =>
    obtain ⟨k, q, hq, hkq, hql, rfl, hown, hbw⟩ := hrel
    by_cases hlt : q < xs.length
    · have hsn := gots_snoc xs k
      have hps : posN xs (k + 1) = q + lenG xs q := by show posN xs k + _ = _; rw [hq]
      have hgl := partG_len xs q
      have hle := lenG_le xs q hlt
      have hpo := lenG_pos xs q
      rw [hq] at hsn
      have HSN := Lib.hid hsn
      have HPS := Lib.hid hps
      have HOW := Lib.hid hown
      clear hsn hps hown hq
      go_wp2_with fail
      refine (part_any _ xs q _ (HV.out.below hbw) HC.out hlt (by omega) HR.out).mono ?_
      rintro e w1 ⟨rfl, b1⟩
      obtain ⟨G, hG⟩ : ∃ G, G = partG xs q := ⟨_, rfl⟩
      rw [← hG] at HSN hgl ⊢
      obtain ⟨n, hn⟩ : ∃ n, n = lenG xs q := ⟨_, rfl⟩
      rw [← hn] at HPS hgl hle hpo
      clear hG hn
      obtain ⟨r, a, l, kn, bd⟩ := G
      have hgl : l = n := hgl
      subst hgl
      rw [show gotV (r, a, (n : Int), kn, bd) = .agg #[.int .i32 r, .int .i64 a, .int .i64 n, .int .i64 kn, .bool bd] from rfl]
      rw [show gotCells (r, a, (n : Int), kn, bd) = [.int .i32 r, .int .i64 a, .int .i64 n, .int .i64 kn, .bool bd] from rfl] at HSN
      have hown1 := ownsRow_below HOW.out b1
      have hb1 := hbw.trans (b1.mono hbw.size)
      clear b1
      have hg0 := (Has.new w1 [Value.int .i32 r, .int .i64 a, .int .i64 n, .int .i64 kn, .bool bd] 32)
      have hown2 := hown1.alloc (.cells [Value.int .i32 r, .int .i64 a, .int .i64 n, .int .i64 kn, .bool bd].toArray 32)
      have hnb : u3.ownBlock ≠ some w1.heap.size := fun e => by have := (hown1.lt _ e).2; omega
      have hb2 := hb1.alloc hb1.size (.cells [Value.int .i32 r, .int .i64 a, .int .i64 n, .int .i64 kn, .bool bd].toArray 32)
      have hsz : (w1.alloc (.cells [Value.int .i32 r, .int .i64 a, .int .i64 n, .int .i64 kn, .bool bd].toArray 32)).heap.size = w1.heap.size + 1 := by simp
      clear hown1
      go_wp2_with (at_builtin; refine wpList_append_newK (w1.alloc (.cells [Value.int .i32 r, .int .i64 a, .int .i64 n, .int .i64 kn, .bool bd].toArray 32)) rfl (.tmp 13) (.tmp 15) 24 rfl w.heap.size 32 (.agg #[.int .i32 0, .int .i64 0, .int .i64 0, .int .i64 0, .bool false]) 5 40 Try.underlying24 info_got rfl (by decide) u3 k (gotsCells (partsN xs k)) rfl hown2 [.int .i32 r, .int .i64 a, .int .i64 n, .int .i64 kn, .bool bd] 1 1 (w1.heap.size + 1) hsz rfl rfl (by intro u hu; simp at hu; rcases hu with rfl | rfl | rfl | rfl | rfl <;> rfl) (by omega) (by omega) hb2.size ?_)
      intro v' w' hown' hb' hkp
      have hg2 : Has w' w1.heap.size [Value.int .i32 r, .int .i64 a, .int .i64 n, .int .i64 kn, .bool bd] 32 := (hkp _ (by simp) hnb).trans hg0
      have c2 := hg2.cell 2 _ rfl
      have hown3 : w'.ownsRow w.heap.size 32 5 v' (k + 1) (gotsCells (partsN xs (k + 1))) := by rw [HSN.out]; exact hown'
      have hb3 := hb2.trans hb'
      clear hown' hown2 hb' hb2 hb1 hkp hg0 hg2 hsz hnb HSN
      go_wp2
      go_roundw
      case rel => exact ⟨k + 1, q + n, HPS.out, by omega, by omega, by go_num, hown3, hb3⟩
      case measure => simp [intOf] <;> omega
    · have hqe : q = xs.length := by omega
      subst hqe
      go_wp2
      go_ret
      exact ⟨k, _, rfl, hq, hown, hbw⟩
end Go.Proofs.Ytgoeacmpphmnoaa
