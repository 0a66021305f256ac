import Derived.Test.YthdphijabffpiaaZ0
import Derived.Test.YthdphijabffpiaaMg5
import Derived.Test.YthdphijabffpiaaMg1
set_option maxRecDepth 100000
set_option linter.unusedVariables false
set_option linter.unusedSimpArgs false
set_option maxHeartbeats 1000000
namespace Go.Proofs.Ythdphijabffpiaa
open Go.RowKit Go.ChangeShapes Go.WideShapes
def aZ(w:World)(g:Nat)(told pic two:Bool):Prop:=Has w g [.bool told,.bool pic,.bool two] 49
theorem fK{w:World}{g:Nat}{C0 C1 C2:Value}{t:TypeId}(a b c:Value)(h:Has w g [C0,C1,C2] t):Has (((w.setCell ⟨g,0,none⟩ a).setCell ⟨g,1,none⟩ b).setCell ⟨g,2,none⟩ c) g [a,b,c] t/\But g w.heap.size w (((w.setCell ⟨g,0,none⟩ a).setCell ⟨g,1,none⟩ b).setCell ⟨g,2,none⟩ c) :=
 ⟨((h.set 0 a).set 1 b).set 2 c,(((But.refl _ _ _).set 0 _).set 1 _).set 2 _⟩
theorem iC(w:World)(br:Int)(pc:Bool)(cj ea:Int):∃ W,W=w.alloc (.cells #[Value.int .i64 br,.bool pc,.int .i64 cj,.int .i64 ea] 42)/\Has W w.heap.size [Value.int .i64 br,.bool pc,.int .i64 cj,.int .i64 ea] 42/\Below w.heap.size w W :=
 ⟨_,rfl,Has.new w _ _,iF _ _⟩
theorem ff(g:Nat)(told pic two:Bool)(r br:Int)(pc:Bool)(cv ea:Int)(w:World)(hg:aZ w g told pic two) :
  Calls Try.prog 44 #[.pointer (some ⟨g,0,none⟩),.int .i32 r,.agg #[.int .i64 br,.bool pc,.int .i64 cv,.int .i64 ea]] w (Gives w (.bool (dF told pic r br pc ea))):=by
 have H0:=aa (show ∀ w1,Below (w.alloc (.cells #[.int .i64 br,.bool pc,.int .i64 cv,.int .i64 ea] 42)).heap.size (w.alloc (.cells #[.int .i64 br,.bool pc,.int .i64 cv,.int .i64 ea] 42)) w1->aZ w1 g told pic two/\Has w1 w.heap.size [.int .i64 br,.bool pc,.int .i64 cv,.int .i64 ea] 42/\Below w.heap.size w w1 from fun w1 b1 =>
  ⟨Has.below (Has.alloc hg _) b1 (Has.alloc hg _).lt,Has.below (Has.new w _ _) b1 (Has.new w _ _).lt,(iF _ _).trans (b1.mono (by simp))⟩)
 have HO:=aa (fun w=>hG br pc cv ea w);clear hg;have hcs:=fO told pic r br pc ea;generalize aV br ea=x at *
 rcases hcs with ⟨h1,hs⟩ | ⟨h1,h2,rfl,hs⟩ | ⟨h1,⟨h2,rfl⟩ | h2,⟨rfl,hs⟩ | ⟨rfl,rfl,hs⟩ | ⟨rfl,rfl,hs⟩⟩
 all_goals
  have HS:=aa hs;clear hs
  go_enter Try.func44,Try.ntmps44
  go_wp2_with fail
  refine (HO.out _).mono ?_;rintro e w1 ⟨rfl,b1⟩;obtain ⟨hg,hp,hl⟩:=H0.out w1 b1;have g0:=hg.cell 0 _ rfl;have g1:=hg.cell 1 _ rfl;have p0:=hp.cell 0 _ rfl;have p1:=hp.cell 1 _ rfl;have hlt:=hg.lt;clear hg hp b1;go_wp2;go_ret;exact ⟨az (by rw [HS.out];first | rfl | simp),hl⟩
def gt(w:World)(g:Nat)(told pic two:Bool)(e:Ending)(w':World):Prop:=e=.returned (.int .i64 (if two=true then 2 else 1))/\aZ w' g told pic two/\But g w.heap.size w w'
theorem fL(g:Nat)(told pic two:Bool)(r br:Int)(pc:Bool)(cv ea:Int)(w:World)(hg:aZ w g told pic two) :
  Calls Try.prog 30 #[.pointer (some ⟨g,0,none⟩),.int .i32 r,.agg #[.int .i64 br,.bool pc,.int .i64 cv,.int .i64 ea]] w (gt w g true pc (two || dF told pic r br pc ea)):=by
 obtain ⟨y,hy⟩ : ∃ y,dF told pic r br pc ea=y:=⟨_,rfl⟩;have HW:=aa (fun w (h:aZ w g told pic two)=>hy ▸ ff g told pic two r br pc cv ea w h:∀ w,aZ w g told pic two->Calls Try.prog 44 #[.pointer (some ⟨g,0,none⟩),.int .i32 r,.agg #[.int .i64 br,.bool pc,.int .i64 cv,.int .i64 ea]] w (Gives w (.bool y)));rw [hy];have hlt:=hg.lt;have HG:=aa hg;clear hg hy
 cases two
 all_goals cases y
 all_goals
  go_enter Try.func30,Try.ntmps30
  go_wp2_with fail
  obtain ⟨W,hW,hb,hl⟩:=iC w br pc cv ea;rw [<-hW];have hg:=HG.out.alloc (.cells #[.int .i64 br,.bool pc,.int .i64 cv,.int .i64 ea] 42);rw [<-hW] at hg;have j5:=aa (show aZ W g told pic _ from hg);have HL:=aa hl;have p0:=ak (hb.cell 0 _ rfl);have p1:=ak (hb.cell 1 _ rfl);have p2:=ak (hb.cell 2 _ rfl);have p3:=ak (hb.cell 3 _ rfl);have s2:=ak (hg.cell 2 _ rfl);have f0:=au (by simpa using hg.lt) (hg.free 0);have f1:=au (by simpa using hg.lt) (hg.free 1);have f2:=au (by simpa using hg.lt) (hg.free 2);have c0:=ak (hg.cell 0 _ rfl);have c1:=ak (hg.cell 1 _ rfl);have HX:=aa (show ∀ u:Growth W,aZ (ext W u) g told pic _ from fun u=>Has.below j5.out u.ok j5.out.lt);clear hg hb hl hW;refine aK 15 (by kernel_rfl) (by simp) (by kernel_rfl) (by kernel_rfl) (by kernel_rfl) (by kernel_rfl) (by kernel_rfl) ?_;simp only [List.take_succ_cons,List.take_zero,List.drop_succ_cons,List.drop_zero]
  repeat (go_big_quiet_step ((go_at_call 44;exact cS (HW.out _ (HX.out _)))))
  refine wpQuiet_nil ?_;intro _ hw';obtain ⟨u,hw''⟩:=hw';subst hw'';have hg3:aZ (ext W u) g told pic _:=Has.below j5.out u.ok j5.out.lt;have je:=bH HL.out u;have hz:=fun x=>fK (.bool true) (.bool pc) (.bool x) hg3
  have HZ:=aa hz;have ji:=aa je;clear hz hg3 je j5 HX HW;go_wp2;go_ret;exact ⟨ae,(HZ.out _).1,(But.ofBelow ji.out).trans ((HZ.out _).2.mono ji.out.size)⟩
end Go.Proofs.Ythdphijabffpiaa
