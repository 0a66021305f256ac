import Derived.Test.YtechjomepdahiaaDoorZ0
import Derived.Test.YtechjomepdahiaaDoorCursorC
set_option maxRecDepth 100000
set_option linter.unusedVariables false
set_option linter.unusedSimpArgs false
set_option maxHeartbeats 2000000
namespace Go.Proofs.YtechjomepdahiaaDoor
open Go.RowKit Go.ChangeShapes Go.WideShapes
def ap(r c:Int)(p:Bool)(a b:Int):Bool:=decide (0<=r) && decide (r<aE b) && decide (0<=c) && decide (c<aE a) && (!p || (c == aE a - 1))
theorem jN(r c:Int)(p:Bool)(a b:Int):ap r c p a b=true↔(0<=r/\r<aE b/\0<=c/\c<aE a/\(p=true->c=aE a - 1)):=by
 unfold ap;cases p <;> simp [and_assoc]
theorem lU(w:World)(a0 a1 a2:Value):∃ W,W=w.alloc (.cells #[a0,a1,a2] 42)/\Has W w.heap.size [a0,a1,a2] 42/\Below w.heap.size w W :=
 ⟨_,rfl,Has.new w _ _,l7 _ _⟩
theorem iS(r c:Int)(p:Bool)(a b:Int)(w:World):Calls Tryd.prog 109 #[.agg #[.int .i64 r,.int .i64 c,.bool p],.int .i64 a,.int .i64 b] w (Gives w (.bool (ap r c p a b))):=by
 have ka:=cK a;have kb:=cK b;have hv:jm r c p (inI r (aE b)) (inI c (aE a)) (eZ c p a)=ap r c p a b:=by
  rw [Bool.eq_iff_iff,jN];unfold jm inI eZ
  cases p <;> simp <;> omega
 have HV:=aa hv;clear hv
 go_enter Tryd.func109,Tryd.ntmps109
 go_wp2_with fail
 obtain ⟨W,hW,hb,hl⟩:=lU w (Value.int .i64 r) (.int .i64 c) (.bool p);rw [<-hW];have HL:=aa hl;have e0:=ay (hb.cell 0 _ rfl);have e1:=ay (hb.cell 1 _ rfl);have e2:=ay (hb.cell 2 _ rfl);generalize hg:w.heap.size=g at *;have HG:=aa hg;clear hb hl hW hg;have q1:=lm;refine aC (by kernel_rfl) (by kernel_rfl) ?_
 repeat (go_big_quiet_step ((go_at_call 115;exact eY (jO r c p a b _))))
 refine wpQuiet_nil ?_;intro _ hw';obtain ⟨u,hw''⟩:=hw';subst hw'';have hbl:=aQ (w:=w) (by rw [HG.out];exact HL.out) u;go_wp2;go_ret;exact ⟨aq (by rw [<-HV.out];rfl),hbl⟩
theorem ic(r c:Int)(p:Bool)(a b:Int)(w:World):Calls Tryd.prog 53 #[.agg #[.int .i64 r,.int .i64 c,.bool p],.int .i64 a,.int .i64 b] w (Gives w (.bool (ap r c p a b))):=by
 have hv:(r<0/\ap r c p a b=false)\/(0<=r/\¬ r<aE b/\ap r c p a b=false)\/(0<=r/\r<aE b/\c<0/\ap r c p a b=false)\/(0<=r/\r<aE b/\0<=c/\¬ c<aE a/\ap r c p a b=false)
   \/ (0<=r/\r<aE b/\0<=c/\c<aE a/\p=false/\ap r c p a b=true)\/(0<=r/\r<aE b/\0<=c/\c<aE a/\p=true/\ap r c p a b=(c == aE a - 1)):=by
  unfold ap
  by_cases h1:0<=r
  ·by_cases h2:r<aE b
   ·by_cases h3:0<=c
    ·by_cases h4:c<aE a
     ·cases p <;> simp [h1,h2,h3,h4]
     ·simp [h1,h2,h3,h4]
    ·simp [h1,h2,h3];omega
   ·simp [h1,h2]
  ·simp [h1];omega
 have ka:=cK a;have kb:=cK b
 rcases hv with ⟨h1,hs⟩ | ⟨h1,h2,hs⟩ | ⟨h1,h2,h3,hs⟩ | ⟨h1,h2,h3,h4,hs⟩ | ⟨h1,h2,h3,h4,h5,hs⟩ | ⟨h1,h2,h3,h4,h5,hs⟩
 all_goals
  try subst h5
  have HS:=aa hs;clear hs;have t1:True:=trivial
  try have d1:decide (0<=r)=true:=by simpa using h1
  try have d1:decide (0<=r)=false:=by simpa using h1
  try have d2:decide (r<aE b)=true:=by simpa using h2
  try have d2:decide (r<aE b)=false:=by simpa using h2
  try have d3:decide (0<=c)=true:=by simpa using h3
  try have d3:decide (0<=c)=false:=by simpa using h3
  try have d4:decide (c<aE a)=true:=by simpa using h4
  try have d4:decide (c<aE a)=false:=by simpa using h4
  go_enter Tryd.func53,Tryd.ntmps53
  go_wp2_with fail
  obtain ⟨W,hW,hb,hl⟩:=lU w (Value.int .i64 r) (.int .i64 c) (.bool _);rw [<-hW];have HL:=aa hl;have e0:=ay (hb.cell 0 _ rfl);have e1:=ay (hb.cell 1 _ rfl);have e2:=ay (hb.cell 2 _ rfl);generalize hg:w.heap.size=g at *;have HG:=aa hg;clear hb hl hW hg;refine aC (by kernel_rfl) (by kernel_rfl) ?_
  repeat (go_big_quiet_step ((go_at_call 86;exact dD (ie _ _))))
  refine wpQuiet_nil ?_;intro _ hw';obtain ⟨u,hw''⟩:=hw';subst hw'';have hbl:=aQ (w:=w) (by rw [HG.out];exact HL.out) u;go_wp2;go_ret;exact ⟨aq (by rw [HS.out];first | rfl | simp),hbl⟩
end Go.Proofs.YtechjomepdahiaaDoor
