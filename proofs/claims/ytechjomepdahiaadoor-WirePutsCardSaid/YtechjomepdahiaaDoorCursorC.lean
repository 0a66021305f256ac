import Derived.Test.YtechjomepdahiaaDoorZ0
import Derived.Test.YtechjomepdahiaaDoorMg1
import Derived.Laws.StructEq
set_option maxRecDepth 100000
set_option linter.unusedVariables false
set_option linter.unusedSimpArgs false
set_option maxHeartbeats 2000000
namespace Go.Proofs.YtechjomepdahiaaDoor
open Go.RowKit Go.ChangeShapes Go.WideShapes
theorem ek(n:Int)(w:World):Calls Tryd.prog 119 #[.int .i64 n] w fun e w'=>e=.returned (.int .i64 (aE n))/\w=w':=by
 rcases ey n with ⟨h2,hs⟩ | ⟨h2,h3,hs⟩ | ⟨h2,hs⟩
 all_goals
  rw [hs];clear hs
  go_enter Tryd.func119,Tryd.ntmps119
  go_wp2;go_ret;exact ⟨ae,rfl⟩
def inI(n m:Int):Int:=if n<0 then 0 else if m<=n then m - 1 else n
def eZ(c:Int)(p:Bool)(w:Int):Bool:=p && (c == aE w - 1)
theorem lV(w:World)(a0 a1 a2:Value):∃ W,W=(w.alloc (.cells #[a0,a1,a2] 42)).alloc (.cells #[Value.int .i64 0,.int .i64 0,.bool false] 42) /\
  Has W w.heap.size [a0,a1,a2] 42/\Has W (w.heap.size+1) [Value.int .i64 0,.int .i64 0,.bool false] 42/\Below w.heap.size w W:=by
 refine ⟨_,rfl,(Has.new w _ _).alloc _,?_,(l7 _ _).alloc (by simp) _⟩;have:=Has.new (w.alloc (.cells #[a0,a1,a2] 42)) [Value.int .i64 0,.int .i64 0,.bool false] 42
 simpa using this
theorem ew{w W:World}(hl:Below w.heap.size w W)(u:Growth W)(x y z:Value)(g:Nat)(hg:w.heap.size<=g) :
  Below w.heap.size w ((((ext W u).setCell ⟨g,0,none⟩ x).setCell ⟨g,1,none⟩ y).setCell ⟨g,2,none⟩ z) :=
 hl.trans ((lT (ext W u) g x y z |>.mono (B':=w.heap.size) (by have:=u.ok.size;have:=hl.size;show _<=u.tz9.heap.size;omega) |>.below (Nat.le_refl _) hg) |> (u.ok.mono hl.size).trans)
theorem jO(r c:Int)(p:Bool)(a b:Int)(w:World):Calls Tryd.prog 115 #[.agg #[.int .i64 r,.int .i64 c,.bool p],.int .i64 a,.int .i64 b] w (Gives w (.agg #[.int .i64 (inI r (aE b)),.int .i64 (inI c (aE a)),.bool (eZ c p a)])):=by
 have ka:=cK a;have kb:=cK b
 go_enter Tryd.func115,Tryd.ntmps115
 go_wp2_with fail
 refine (ek a _).mono ?_;rintro e w' ⟨rfl,rfl⟩
 go_wp2_with fail
 obtain ⟨W,hW,hb,hr,hl⟩:=lV w (Value.int .i64 r) (.int .i64 c) (.bool p);rw [<-hW];have HL:=aa hl;have e0:=ay (hb.cell 0 _ rfl);have e1:=ay (hb.cell 1 _ rfl);have e2:=ay (hb.cell 2 _ rfl);have hlt:=hr.lt;have g0:=eX (by simpa using hlt) (hr.free 0);have g1:=eX (by simpa using hlt) (hr.free 1);have g2:=eX (by simpa using hlt) (hr.free 2);have k0:=ay (hr.cell 0 _ rfl);have k1:=ay (hr.cell 1 _ rfl);have k2:=ay (hr.cell 2 _ rfl);generalize hg:w.heap.size=g at *;have HG:=aa hg;clear hb hr hl hW hg
 cases p with
 |true =>
  refine ce 21 (by kernel_rfl) (by simp) (by kernel_rfl) (by kernel_rfl) (by kernel_rfl) (by kernel_rfl) (by kernel_rfl) ?_;simp only [List.take_succ_cons,List.take_zero,List.drop_succ_cons,List.drop_zero]
  repeat (go_big_quiet_step ((go_at_call 119;exact dD (ek _ _))))
  refine wpQuiet_nil ?_;intro _ hw';obtain ⟨u,hw''⟩:=hw';subst hw'';go_wp2
  all_goals
   have hbl:=fun x y z=>ew (w:=w) (by rw [HG.out];exact HL.out) u x y z (g+1) (by have:=HG.out;omega)
   refine bodyPost_ret (v:=.agg #[.int .i64 (inI r (aE b)),.int .i64 (inI c (aE a)),.bool (eZ c true a)]) (by simp [results,Tryd.results115,go_sem,eZ,k0,k1,k2];try unfold inI;try omega) rfl ⟨rfl,hbl _ _ _⟩
 |false =>
  refine ce 21 (by kernel_rfl) (by simp) (by kernel_rfl) (by kernel_rfl) (by kernel_rfl) (by kernel_rfl) (by kernel_rfl) ?_;simp only [List.take_succ_cons,List.take_zero,List.drop_succ_cons,List.drop_zero]
  repeat (go_big_quiet_step ((go_at_call 119;exact dD (ek _ _))))
  refine wpQuiet_nil ?_;intro _ hw';obtain ⟨u,hw''⟩:=hw';subst hw'';go_wp2
  all_goals
   have hbl:=fun x y z=>ew (w:=w) (by rw [HG.out];exact HL.out) u x y z (g+1) (by have:=HG.out;omega)
   refine bodyPost_ret (v:=.agg #[.int .i64 (inI r (aE b)),.int .i64 (inI c (aE a)),.bool (eZ c false a)]) (by simp [results,Tryd.results115,go_sem,eZ,k0,k1,k2];try unfold inI;try omega) rfl ⟨rfl,hbl _ _ _⟩
theorem jP:Tryd.prog.stoodInHeld 42=false:=by kernel_rfl
def jm(r c:Int)(p:Bool)(r' c':Int)(p':Bool):Bool:=r == r' && (c == c' && p == p')
theorem lm(r c:Int)(p:Bool)(r' c':Int)(p':Bool)(w:World):(binOp .eql 42 (.agg #[.int .i64 r,.int .i64 c,.bool p]) (.agg #[.int .i64 r',.int .i64 c',.bool p'])).run Tryd.prog w=.ok (.bool (jm r c p r' c' p')) w:=by
 rw [run_eql_struct,run_equalIn_agg _ _ _ _ _ (by kernel_rfl) jP];simp only [Program.fieldsOf,Tryd.underlying42]
 by_cases h1:r=r' <;> by_cases h2:c=c' <;> simp [Op.eqFields,go_sem,part,h1,h2,jm]
 cases p <;> cases p' <;> rfl
end Go.Proofs.YtechjomepdahiaaDoor
