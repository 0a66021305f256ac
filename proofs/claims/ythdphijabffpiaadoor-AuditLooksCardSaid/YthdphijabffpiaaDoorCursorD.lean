import Derived.Test.YthdphijabffpiaaDoorZ0
import Derived.Test.YthdphijabffpiaaDoorCursorC
set_option maxRecDepth 100000
set_option linter.unusedVariables false
set_option linter.unusedSimpArgs false
set_option maxHeartbeats 2000000
namespace Go.Proofs.YthdphijabffpiaaDoor
open Go.RowKit Go.ChangeShapes Go.WideShapes
def an(r c:Int)(p:Bool)(a b:Int):Bool:=decide (0<=r) && decide (r<am b) && decide (0<=c) && decide (c<am a) && (!p || (c == am a - 1))
theorem dZ(r c:Int)(p:Bool)(a b:Int):an r c p a b=true↔(0<=r/\r<am b/\0<=c/\c<am a/\(p=true->c=am a - 1)):=by
 unfold an;cases p <;> simp [and_assoc]
theorem eX(w:World)(a0 a1 a2:Value):∃ W,W=w.alloc (.cells #[a0,a1,a2] 24)/\Has W w.heap.size [a0,a1,a2] 24/\Below w.heap.size w W :=
 ⟨_,rfl,Has.new w _ _,af _ _⟩
theorem dA(r c:Int)(p:Bool)(a b:Int)(w:World):Calls Tryd.prog 56 #[.agg #[.int .i64 r,.int .i64 c,.bool p],.int .i64 a,.int .i64 b] w (Gives w (.bool (an r c p a b))):=by
 have ka:=bd a;have kb:=bd b;have hv:dL r c p (inI r (am b)) (inI c (am a)) (cw c p a)=an r c p a b:=by
  rw [Bool.eq_iff_iff,dZ];unfold dL inI cw
  cases p <;> simp <;> omega
 have HV:=aa hv;clear hv
 go_enter Tryd.func56,Tryd.ntmps56
 go_wp2_with fail
 obtain ⟨W,hW,hb,hl⟩:=eX w (Value.int .i64 r) (.int .i64 c) (.bool p);rw [<-hW];have HL:=aa hl;have e0:=ar (hb.cell 0 _ rfl);have e1:=ar (hb.cell 1 _ rfl);have e2:=ar (hb.cell 2 _ rfl);generalize hg:w.heap.size=g at *;have HG:=aa hg;clear hb hl hW hg;have q1:=eK;refine aT (by kernel_rfl) (by kernel_rfl) ?_
 repeat (go_big_quiet_step ((go_at_call 91;exact eu (d6 r c p a b _))))
 refine wpQuiet_nil ?_;intro _ hw';obtain ⟨u,hw''⟩:=hw';subst hw'';have hbl:=aI (w:=w) (by rw [HG.out];exact HL.out) u;go_wp2;go_ret;exact ⟨ax (by rw [<-HV.out];rfl),hbl⟩
theorem de(r c:Int)(p:Bool)(a b:Int)(w:World):Calls Tryd.prog 50 #[.agg #[.int .i64 r,.int .i64 c,.bool p],.int .i64 a,.int .i64 b] w (Gives w (.bool (an r c p a b))):=by
 have hv:(r<0/\an r c p a b=false)\/(0<=r/\¬ r<am b/\an r c p a b=false)\/(0<=r/\r<am b/\c<0/\an r c p a b=false)\/(0<=r/\r<am b/\0<=c/\¬ c<am a/\an r c p a b=false)
   \/ (0<=r/\r<am b/\0<=c/\c<am a/\p=false/\an r c p a b=true)\/(0<=r/\r<am b/\0<=c/\c<am a/\p=true/\an r c p a b=(c == am a - 1)):=by
  unfold an
  by_cases h1:0<=r
  ·by_cases h2:r<am b
   ·by_cases h3:0<=c
    ·by_cases h4:c<am a
     ·cases p <;> simp [h1,h2,h3,h4]
     ·simp [h1,h2,h3,h4]
    ·simp [h1,h2,h3];omega
   ·simp [h1,h2]
  ·simp [h1];omega
 have ka:=bd a;have kb:=bd b
 rcases hv with ⟨h1,hs⟩ | ⟨h1,h2,hs⟩ | ⟨h1,h2,h3,hs⟩ | ⟨h1,h2,h3,h4,hs⟩ | ⟨h1,h2,h3,h4,h5,hs⟩ | ⟨h1,h2,h3,h4,h5,hs⟩
 all_goals
  try subst h5
  have HS:=aa hs;clear hs;have t1:True:=trivial
  try have d1:decide (0<=r)=true:=by simpa using h1
  try have d1:decide (0<=r)=false:=by simpa using h1
  try have d2:decide (r<am b)=true:=by simpa using h2
  try have d2:decide (r<am b)=false:=by simpa using h2
  try have d3:decide (0<=c)=true:=by simpa using h3
  try have d3:decide (0<=c)=false:=by simpa using h3
  try have d4:decide (c<am a)=true:=by simpa using h4
  try have d4:decide (c<am a)=false:=by simpa using h4
  go_enter Tryd.func50,Tryd.ntmps50
  go_wp2_with fail
  obtain ⟨W,hW,hb,hl⟩:=eX w (Value.int .i64 r) (.int .i64 c) (.bool _);rw [<-hW];have HL:=aa hl;have e0:=ar (hb.cell 0 _ rfl);have e1:=ar (hb.cell 1 _ rfl);have e2:=ar (hb.cell 2 _ rfl);generalize hg:w.heap.size=g at *;have HG:=aa hg;clear hb hl hW hg;refine aT (by kernel_rfl) (by kernel_rfl) ?_
  repeat (go_big_quiet_step ((go_at_call 83;exact bg (df _ _))))
  refine wpQuiet_nil ?_;intro _ hw';obtain ⟨u,hw''⟩:=hw';subst hw'';have hbl:=aI (w:=w) (by rw [HG.out];exact HL.out) u;go_wp2;go_ret;exact ⟨ax (by rw [HS.out];first | rfl | simp),hbl⟩
end Go.Proofs.YthdphijabffpiaaDoor
