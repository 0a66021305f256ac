import Derived.Test.YthdphijabffpiaaZ0
import Derived.Test.YthdphijabffpiaaMg2
set_option maxRecDepth 100000
set_option linter.unusedVariables false
set_option linter.unusedSimpArgs false
set_option maxHeartbeats 4000000
namespace Go.Proofs.Ythdphijabffpiaa
open Go.RowKit Go.ChangeShapes Go.WideShapes
def aX(w:World)(g:Nat)(tl:Bool)(la cj pi:Int)(od:Bool):Prop:=Has w g [.bool tl,.int .i64 la,.int .u8 cj,.int .u8 pi,.bool od] 39
def aW(tl:Bool)(la cj pi:Int)(od:Bool)(br:Int)(pc:Bool)(cv:Int):Bool :=
 if tl=false then false else if bN la br=1 then true else if cv=1/\cj=2 then true else if pc=true/\pi=2 then true else (br == 6 && od)
theorem eU(tl:Bool)(la cj pi:Int)(od:Bool)(br:Int)(pc:Bool)(cv:Int) :
  (tl=false/\aW tl la cj pi od br pc cv=false)\/(tl=true/\(bN la br == 1)=true/\aW tl la cj pi od br pc cv=true)
  \/ (tl=true/\(bN la br == 1)=false/\(cv == 1)=true/\(cj == 2)=true/\aW tl la cj pi od br pc cv=true)
  \/ (tl=true/\(bN la br == 1)=false/\((cv == 1)=false\/(cv == 1)=true/\(cj == 2)=false)/\pc=true/\(pi == 2)=true/\aW tl la cj pi od br pc cv=true)
  \/ (tl=true/\(bN la br == 1)=false/\((cv == 1)=false\/(cv == 1)=true/\(cj == 2)=false)/\(pc=false\/pc=true/\(pi == 2)=false)/\((br == 6)=false/\aW tl la cj pi od br pc cv=false\/(br == 6)=true/\aW tl la cj pi od br pc cv=od)):=by
 unfold aW
 cases tl with
 |false=>simp
 |true =>
  by_cases h1:bN la br=1
  ·simp [h1]
  by_cases h2:cv=1/\cj=2
  ·simp [h1,h2]
  have ku:((cv == 1)=false\/(cv == 1)=true/\(cj == 2)=false):=by
   by_cases h:cv=1
   ·exact .inr ⟨by simpa using h,by simp;intro e;exact h2 ⟨h,e⟩⟩
   ·exact .inl (by simpa using h)
  by_cases h3:pc=true/\pi=2
  ·refine .inr (.inr (.inr (.inl ⟨rfl,by simpa using h1,ku,h3.1,by simpa using h3.2,?_⟩)));rw [if_neg (by simp),if_neg h1,if_neg h2,if_pos h3]
  have h3':(pc=false\/pc=true/\(pi == 2)=false):=by
   cases pc with
   | false=>exact .inl rfl
   | true=>exact .inr ⟨rfl,by simp;intro e;exact h3 ⟨rfl,e⟩⟩
  refine .inr (.inr (.inr (.inr ⟨rfl,by simpa using h1,ku,h3',?_⟩)));rw [if_neg (by simp),if_neg h1,if_neg h2,if_neg h3]
  by_cases h4:br=6 <;> simp [h4]
theorem ct(g:Nat)(tl:Bool)(la cj pi:Int)(od:Bool)(br:Int)(pc:Bool)(cv ea:Int)(w:World)(hs:aX w g tl la cj pi od) :
  Calls Try.prog 23 #[.pointer (some ⟨g,0,none⟩),.agg #[.int .i64 br,.bool pc,.int .i64 cv,.int .i64 ea]] w (Gives w (.bool (aW tl la cj pi od br pc cv))):=by
 rcases eU tl la cj pi od br pc cv with ⟨rfl,hv⟩ | ⟨rfl,h1,hv⟩ | ⟨rfl,h1,h2,h3,hv⟩ | ⟨rfl,h1,h2 | ⟨h2,ku⟩,rfl,h3,hv⟩ | ⟨rfl,h1,h2 | ⟨h2,ku⟩,rfl | ⟨rfl,h3⟩,⟨h4,hv⟩ | ⟨h4,hv⟩⟩
 ·rw [hv];have c0:=hs.cell 0 _ rfl;have hl:=hs.lt;clear hs hv
  go_enter Try.func23,Try.ntmps23
  go_wp2;go_ret;exact ⟨ae,iF _ _⟩
 all_goals
  have HV:=aa hv;have cw:=hs.cell 0 _ rfl;have hlw:=hs.lt;clear hv
  go_enter Try.func23,Try.ntmps23
  go_wp2_with fail
  obtain ⟨W,hW,hb,hl⟩:=gL w br _ cv ea;rw [<-hW];have hs1:aX W g true la cj pi od:=by rw [hW];exact hs.alloc _
  have c0:=hs1.cell 0 _ rfl;have e0:=ak (hb.cell 0 _ rfl);have e1:=ak (hs1.cell 1 _ rfl);have HB:=aa hb;have HS:=aa hs1;have HL:=aa hl;clear hb hs1 hl hW hs cw hlw;refine dS (by kernel_rfl) (by kernel_rfl) ?_
  repeat (go_big_quiet_step ((go_at_call 33;exact fk (gM la br _))))
  refine wpQuiet_nil ?_;intro _ hw';obtain ⟨u,hw''⟩:=hw';subst hw'';obtain ⟨W2,hW2⟩:=ab (ext W u);rw [<-hW2];have hb2:=HB.out.below u.ok HB.out.lt;rw [show u.tz9=W2 from hW2.symm] at hb2;have hs2:aX W2 g true la cj pi od:=by rw [hW2];exact HS.out.below u.ok HS.out.lt
  have hl2:Below w.heap.size w W2:=by rw [hW2];exact bH HL.out u
  clear hW2 HB HS HL e0 e1 c0;have b0:=hb2.cell 0 _ rfl;have b1:=hb2.cell 1 _ rfl;have b2:=hb2.cell 2 _ rfl;have c2:=hs2.cell 2 _ rfl;have c3:=hs2.cell 3 _ rfl;have c4:=hs2.cell 4 _ rfl;clear hb2 hs2;go_wp2;go_ret;exact ⟨az (by rw [HV.out];rfl),hl2⟩
end Go.Proofs.Ythdphijabffpiaa
