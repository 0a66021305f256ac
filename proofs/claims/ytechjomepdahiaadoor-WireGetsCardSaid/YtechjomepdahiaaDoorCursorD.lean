import Derived.Test.YtechjomepdahiaaDoorZ0
import Derived.Test.YtechjomepdahiaaDoorCursorC
set_option maxRecDepth 100000
set_option linter.unusedVariables false
set_option linter.unusedSimpArgs false
set_option maxHeartbeats 2000000
namespace Go.Proofs.YtechjomepdahiaaDoor
open Go.RowKit Go.ChangeShapes Go.WideShapes
def am(r c:Int)(p:Bool)(a b:Int):Bool:=decide (0<=r) && decide (r<az b) && decide (0<=c) && decide (c<az a) && (!p || (c == az a - 1))
theorem ie(r c:Int)(p:Bool)(a b:Int):am r c p a b=true↔(0<=r/\r<az b/\0<=c/\c<az a/\(p=true->c=az a - 1)):=by
 unfold am;cases p <;> simp [and_assoc]
theorem jU(w:World)(a0 a1 a2:Value):∃ W,W=w.alloc (.cells #[a0,a1,a2] 42)/\Has W w.heap.size [a0,a1,a2] 42/\Below w.heap.size w W :=
 ⟨_,rfl,Has.new w _ _,j0 _ _⟩
theorem gw(r c:Int)(p:Bool)(a b:Int)(w:World):Calls Tryd.prog 109 #[.agg #[.int .i64 r,.int .i64 c,.bool p],.int .i64 a,.int .i64 b] w (Gives w (.bool (am r c p a b))):=by
 have ka:=cz a;have kb:=cz b;have hv:gM r c p (inI r (az b)) (inI c (az a)) (em c p a)=am r c p a b:=by
  rw [Bool.eq_iff_iff,ie];unfold gM inI em
  cases p <;> simp <;> omega
 have HV:=aa hv;clear hv
 go_enter Tryd.func109,Tryd.ntmps109
 go_wp2_with fail
 obtain ⟨W,hW,hb,hl⟩:=jU w (Value.int .i64 r) (.int .i64 c) (.bool p);rw [<-hW];have HL:=aa hl;have e0:=aG (hb.cell 0 _ rfl);have e1:=aG (hb.cell 1 _ rfl);have e2:=aG (hb.cell 2 _ rfl);generalize hg:w.heap.size=g at *;have HG:=aa hg;clear hb hl hW hg;have q1:=jt;refine aT (by kernel_rfl) (by kernel_rfl) ?_
 repeat (go_big_quiet_step ((go_at_call 115;exact iZ (ig r c p a b _))))
 refine wpQuiet_nil ?_;intro _ hw';obtain ⟨u,hw''⟩:=hw';subst hw'';have hbl:=cx (w:=w) (by rw [HG.out];exact HL.out) u;go_wp2;go_ret;exact ⟨ax (by rw [<-HV.out];rfl),hbl⟩
theorem fQ(r c:Int)(p:Bool)(a b:Int)(w:World):Calls Tryd.prog 53 #[.agg #[.int .i64 r,.int .i64 c,.bool p],.int .i64 a,.int .i64 b] w (Gives w (.bool (am r c p a b))):=by
 have hv:(r<0/\am r c p a b=false)\/(0<=r/\¬ r<az b/\am r c p a b=false)\/(0<=r/\r<az b/\c<0/\am r c p a b=false)\/(0<=r/\r<az b/\0<=c/\¬ c<az a/\am r c p a b=false)
   \/ (0<=r/\r<az b/\0<=c/\c<az a/\p=false/\am r c p a b=true)\/(0<=r/\r<az b/\0<=c/\c<az a/\p=true/\am r c p a b=(c == az a - 1)):=by
  unfold am
  by_cases h1:0<=r
  ·by_cases h2:r<az b
   ·by_cases h3:0<=c
    ·by_cases h4:c<az a
     ·cases p <;> simp [h1,h2,h3,h4]
     ·simp [h1,h2,h3,h4]
    ·simp [h1,h2,h3];omega
   ·simp [h1,h2]
  ·simp [h1];omega
 have ka:=cz a;have kb:=cz b
 rcases hv with ⟨h1,hs⟩ | ⟨h1,h2,hs⟩ | ⟨h1,h2,h3,hs⟩ | ⟨h1,h2,h3,h4,hs⟩ | ⟨h1,h2,h3,h4,h5,hs⟩ | ⟨h1,h2,h3,h4,h5,hs⟩
 all_goals
  try subst h5
  have HS:=aa hs;clear hs;have t1:True:=trivial
  try have d1:decide (0<=r)=true:=by simpa using h1
  try have d1:decide (0<=r)=false:=by simpa using h1
  try have d2:decide (r<az b)=true:=by simpa using h2
  try have d2:decide (r<az b)=false:=by simpa using h2
  try have d3:decide (0<=c)=true:=by simpa using h3
  try have d3:decide (0<=c)=false:=by simpa using h3
  try have d4:decide (c<az a)=true:=by simpa using h4
  try have d4:decide (c<az a)=false:=by simpa using h4
  go_enter Tryd.func53,Tryd.ntmps53
  go_wp2_with fail
  obtain ⟨W,hW,hb,hl⟩:=jU w (Value.int .i64 r) (.int .i64 c) (.bool _);rw [<-hW];have HL:=aa hl;have e0:=aG (hb.cell 0 _ rfl);have e1:=aG (hb.cell 1 _ rfl);have e2:=aG (hb.cell 2 _ rfl);generalize hg:w.heap.size=g at *;have HG:=aa hg;clear hb hl hW hg;refine aT (by kernel_rfl) (by kernel_rfl) ?_
  repeat (go_big_quiet_step ((go_at_call 86;exact dd (fR _ _))))
  refine wpQuiet_nil ?_;intro _ hw';obtain ⟨u,hw''⟩:=hw';subst hw'';have hbl:=cx (w:=w) (by rw [HG.out];exact HL.out) u;go_wp2;go_ret;exact ⟨ax (by rw [HS.out];first | rfl | simp),hbl⟩
end Go.Proofs.YtechjomepdahiaaDoor
