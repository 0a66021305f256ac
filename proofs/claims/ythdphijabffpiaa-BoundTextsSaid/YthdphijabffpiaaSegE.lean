import Derived.Test.YthdphijabffpiaaZ0
import Derived.Test.YthdphijabffpiaaSegD
set_option maxRecDepth 100000
set_option linter.unusedVariables false
set_option linter.unusedSimpArgs false
set_option maxHeartbeats 2000000
namespace Go.Proofs.Ythdphijabffpiaa
open Go.RowKit Go.ChangeShapes Go.WideShapes
def bL(w:World)(g:Nat)(j:Bool)(tl:Bool)(la cj pi:Int)(od:Bool)(e:Ending)(w':World):Prop:=e=.returned (.bool j)/\aX w' g tl la cj pi od/\But g w.heap.size w w'
theorem cX(w:World)(g:Nat)(a b c d e:Value){tl:Bool}{la cj pi:Int}{od:Bool}(h:aX w g tl la cj pi od) :
  Has (((((w.setCell ⟨g,0,none⟩ a).setCell ⟨g,1,none⟩ b).setCell ⟨g,2,none⟩ c).setCell ⟨g,3,none⟩ d).setCell ⟨g,4,none⟩ e) g [a,b,c,d,e] 39 /\
  But g w.heap.size w (((((w.setCell ⟨g,0,none⟩ a).setCell ⟨g,1,none⟩ b).setCell ⟨g,2,none⟩ c).setCell ⟨g,3,none⟩ d).setCell ⟨g,4,none⟩ e) :=
 ⟨((((h.set 0 a).set 1 b).set 2 c).set 3 d).set 4 e,(((((But.refl _ _ _).set 0 _).set 1 _).set 2 _).set 3 _).set 4 _⟩
theorem dU(g:Nat)(tl:Bool)(la cj pi:Int)(br:Int)(pc:Bool)(cv ea:Int)(w:World)(hs:aX w g tl la cj pi false)(c0:0<=cj)(c1:cj<=255)(p0:0<=pi)(p1:pi<=255)(h6:(br == 6)=false) :
  Calls Try.prog 18 #[.pointer (some ⟨g,0,none⟩),.agg #[.int .i64 br,.bool pc,.int .i64 cv,.int .i64 ea]] w (bL w g (aW tl la cj pi false br pc cv) true br (aP cj cv) (bp pi br pc) false):=by
 have HS:=aa hs;have hg:=hs.lt;clear hs
 go_enter Try.func18,Try.ntmps18
 go_wp2_with fail
 obtain ⟨W,hW,hb,hl⟩:=gL w br pc cv ea;rw [<-hW];have hs1:aX W g tl la cj pi false:=by rw [hW];exact HS.out.alloc _
 clear hW HS;refine (ct g tl la cj pi false br pc cv ea W hs1).mono ?_;rintro e w1 ⟨rfl,b1⟩;have hs2:aX w1 g tl la cj pi false:=hs1.below b1 hs1.lt;have hb2:=hb.below b1 hb.lt;have hl2:=hl.trans (b1.mono hl.size);clear hs1 hb hl b1;have e0:=ak (hb2.cell 0 _ rfl);have e1:=ak (hb2.cell 1 _ rfl);have e2:=ak (hb2.cell 2 _ rfl);have e3:=ak (hb2.cell 3 _ rfl);have s0:=ak (hs2.cell 0 _ rfl);have s1:=ak (hs2.cell 1 _ rfl);have s2:=ak (hs2.cell 2 _ rfl);have s3:=ak (hs2.cell 3 _ rfl);have s4:=ak (hs2.cell 4 _ rfl);have f0:=au (by simpa using hs2.lt) (hs2.free 0);have f1:=au (by simpa using hs2.lt) (hs2.free 1);have f2:=au (by simpa using hs2.lt) (hs2.free 2);have f3:=au (by simpa using hs2.lt) (hs2.free 3);have f4:=au (by simpa using hs2.lt) (hs2.free 4);have jd:=aa hs2;have ju:=aa hl2;clear hs2 hb2 hl2
 go_wp2_with fail
 refine aK 27 (by kernel_rfl) (by simp) (by kernel_rfl) (by kernel_rfl) (by kernel_rfl) (by kernel_rfl) (by kernel_rfl) ?_;simp only [List.take_succ_cons,List.take_zero,List.drop_succ_cons,List.drop_zero]
 repeat (go_big_quiet_step ((first | (go_at_call 24;exact cS (cW cj br pc cv ea _ c0 c1)) | (go_at_call 25;exact cS (dr pi br pc cv ea _ p0 p1)))))
 refine wpQuiet_nil ?_;intro _ hw';obtain ⟨u,hw''⟩:=hw';subst hw'';have hs3:aX (ext w1 u) g tl la cj pi false:=jd.out.below u.ok jd.out.lt;have je:=bH ju.out u;have hz:=cX (ext w1 u) g (.bool true) (.int .i64 br) (.int .u8 (aP cj cv)) (.int .u8 (bp pi br pc)) (.bool false) hs3;have HZ:=aa hz;have ji:=aa je;clear hs3 je hz jd ju;go_wp2;go_ret;exact ⟨rfl,HZ.out.1,(But.ofBelow ji.out).trans (HZ.out.2.mono ji.out.size)⟩
theorem dM(g:Nat)(tl:Bool)(la cj pi:Int)(br:Int)(pc:Bool)(cv ea:Int)(w:World)(hs:aX w g tl la cj pi false)(c0:0<=cj)(c1:cj<=255)(p0:0<=pi)(p1:pi<=255)(h6:(br == 6)=true) :
  Calls Try.prog 18 #[.pointer (some ⟨g,0,none⟩),.agg #[.int .i64 br,.bool pc,.int .i64 cv,.int .i64 ea]] w (bL w g (aW tl la cj pi false br pc cv) true br (aP cj cv) (bp pi br pc) true):=by
 have HS:=aa hs;have hg:=hs.lt;clear hs
 go_enter Try.func18,Try.ntmps18
 go_wp2_with fail
 obtain ⟨W,hW,hb,hl⟩:=gL w br pc cv ea;rw [<-hW];have hs1:aX W g tl la cj pi false:=by rw [hW];exact HS.out.alloc _
 clear hW HS;refine (ct g tl la cj pi false br pc cv ea W hs1).mono ?_;rintro e w1 ⟨rfl,b1⟩;have hs2:aX w1 g tl la cj pi false:=hs1.below b1 hs1.lt;have hb2:=hb.below b1 hb.lt;have hl2:=hl.trans (b1.mono hl.size);clear hs1 hb hl b1;have e0:=ak (hb2.cell 0 _ rfl);have e1:=ak (hb2.cell 1 _ rfl);have e2:=ak (hb2.cell 2 _ rfl);have e3:=ak (hb2.cell 3 _ rfl);have s0:=ak (hs2.cell 0 _ rfl);have s1:=ak (hs2.cell 1 _ rfl);have s2:=ak (hs2.cell 2 _ rfl);have s3:=ak (hs2.cell 3 _ rfl);have s4:=ak (hs2.cell 4 _ rfl);have f0:=au (by simpa using hs2.lt) (hs2.free 0);have f1:=au (by simpa using hs2.lt) (hs2.free 1);have f2:=au (by simpa using hs2.lt) (hs2.free 2);have f3:=au (by simpa using hs2.lt) (hs2.free 3);have f4:=au (by simpa using hs2.lt) (hs2.free 4);have jd:=aa hs2;have ju:=aa hl2;clear hs2 hb2 hl2
 go_wp2_with fail
 refine aK 27 (by kernel_rfl) (by simp) (by kernel_rfl) (by kernel_rfl) (by kernel_rfl) (by kernel_rfl) (by kernel_rfl) ?_;simp only [List.take_succ_cons,List.take_zero,List.drop_succ_cons,List.drop_zero]
 repeat (go_big_quiet_step ((first | (go_at_call 24;exact cS (cW cj br pc cv ea _ c0 c1)) | (go_at_call 25;exact cS (dr pi br pc cv ea _ p0 p1)))))
 refine wpQuiet_nil ?_;intro _ hw';obtain ⟨u,hw''⟩:=hw';subst hw'';have hs3:aX (ext w1 u) g tl la cj pi false:=jd.out.below u.ok jd.out.lt;have je:=bH ju.out u;have hz:=cX (ext w1 u) g (.bool true) (.int .i64 br) (.int .u8 (aP cj cv)) (.int .u8 (bp pi br pc)) (.bool true) hs3;have HZ:=aa hz;have ji:=aa je;clear hs3 je hz jd ju;go_wp2;go_ret;exact ⟨rfl,HZ.out.1,(But.ofBelow ji.out).trans (HZ.out.2.mono ji.out.size)⟩
theorem ev(g:Nat)(tl:Bool)(la cj pi:Int)(br:Int)(pc:Bool)(cv ea:Int)(w:World)(hs:aX w g tl la cj pi true)(c0:0<=cj)(c1:cj<=255)(p0:0<=pi)(p1:pi<=255)(h6:(br == 6)=false) :
  Calls Try.prog 18 #[.pointer (some ⟨g,0,none⟩),.agg #[.int .i64 br,.bool pc,.int .i64 cv,.int .i64 ea]] w (bL w g (aW tl la cj pi true br pc cv) true br (aP cj cv) (bp pi br pc) false):=by
 have HS:=aa hs;have hg:=hs.lt;clear hs
 go_enter Try.func18,Try.ntmps18
 go_wp2_with fail
 obtain ⟨W,hW,hb,hl⟩:=gL w br pc cv ea;rw [<-hW];have hs1:aX W g tl la cj pi true:=by rw [hW];exact HS.out.alloc _
 clear hW HS;refine (ct g tl la cj pi true br pc cv ea W hs1).mono ?_;rintro e w1 ⟨rfl,b1⟩;have hs2:aX w1 g tl la cj pi true:=hs1.below b1 hs1.lt;have hb2:=hb.below b1 hb.lt;have hl2:=hl.trans (b1.mono hl.size);clear hs1 hb hl b1;have e0:=ak (hb2.cell 0 _ rfl);have e1:=ak (hb2.cell 1 _ rfl);have e2:=ak (hb2.cell 2 _ rfl);have e3:=ak (hb2.cell 3 _ rfl);have s0:=ak (hs2.cell 0 _ rfl);have s1:=ak (hs2.cell 1 _ rfl);have s2:=ak (hs2.cell 2 _ rfl);have s3:=ak (hs2.cell 3 _ rfl);have s4:=ak (hs2.cell 4 _ rfl);have f0:=au (by simpa using hs2.lt) (hs2.free 0);have f1:=au (by simpa using hs2.lt) (hs2.free 1);have f2:=au (by simpa using hs2.lt) (hs2.free 2);have f3:=au (by simpa using hs2.lt) (hs2.free 3);have f4:=au (by simpa using hs2.lt) (hs2.free 4);have jd:=aa hs2;have ju:=aa hl2;clear hs2 hb2 hl2
 go_wp2_with fail
 refine aK 27 (by kernel_rfl) (by simp) (by kernel_rfl) (by kernel_rfl) (by kernel_rfl) (by kernel_rfl) (by kernel_rfl) ?_;simp only [List.take_succ_cons,List.take_zero,List.drop_succ_cons,List.drop_zero]
 repeat (go_big_quiet_step ((first | (go_at_call 24;exact cS (cW cj br pc cv ea _ c0 c1)) | (go_at_call 25;exact cS (dr pi br pc cv ea _ p0 p1)))))
 refine wpQuiet_nil ?_;intro _ hw';obtain ⟨u,hw''⟩:=hw';subst hw'';have hs3:aX (ext w1 u) g tl la cj pi true:=jd.out.below u.ok jd.out.lt;have je:=bH ju.out u;have hz:=cX (ext w1 u) g (.bool true) (.int .i64 br) (.int .u8 (aP cj cv)) (.int .u8 (bp pi br pc)) (.bool false) hs3;have HZ:=aa hz;have ji:=aa je;clear hs3 je hz jd ju;go_wp2;go_ret;exact ⟨rfl,HZ.out.1,(But.ofBelow ji.out).trans (HZ.out.2.mono ji.out.size)⟩
theorem dV(g:Nat)(tl:Bool)(la cj pi:Int)(br:Int)(pc:Bool)(cv ea:Int)(w:World)(hs:aX w g tl la cj pi true)(c0:0<=cj)(c1:cj<=255)(p0:0<=pi)(p1:pi<=255)(h6:(br == 6)=true) :
  Calls Try.prog 18 #[.pointer (some ⟨g,0,none⟩),.agg #[.int .i64 br,.bool pc,.int .i64 cv,.int .i64 ea]] w (bL w g (aW tl la cj pi true br pc cv) true br (aP cj cv) (bp pi br pc) false):=by
 have HS:=aa hs;have hg:=hs.lt;clear hs
 go_enter Try.func18,Try.ntmps18
 go_wp2_with fail
 obtain ⟨W,hW,hb,hl⟩:=gL w br pc cv ea;rw [<-hW];have hs1:aX W g tl la cj pi true:=by rw [hW];exact HS.out.alloc _
 clear hW HS;refine (ct g tl la cj pi true br pc cv ea W hs1).mono ?_;rintro e w1 ⟨rfl,b1⟩;have hs2:aX w1 g tl la cj pi true:=hs1.below b1 hs1.lt;have hb2:=hb.below b1 hb.lt;have hl2:=hl.trans (b1.mono hl.size);clear hs1 hb hl b1;have e0:=ak (hb2.cell 0 _ rfl);have e1:=ak (hb2.cell 1 _ rfl);have e2:=ak (hb2.cell 2 _ rfl);have e3:=ak (hb2.cell 3 _ rfl);have s0:=ak (hs2.cell 0 _ rfl);have s1:=ak (hs2.cell 1 _ rfl);have s2:=ak (hs2.cell 2 _ rfl);have s3:=ak (hs2.cell 3 _ rfl);have s4:=ak (hs2.cell 4 _ rfl);have f0:=au (by simpa using hs2.lt) (hs2.free 0);have f1:=au (by simpa using hs2.lt) (hs2.free 1);have f2:=au (by simpa using hs2.lt) (hs2.free 2);have f3:=au (by simpa using hs2.lt) (hs2.free 3);have f4:=au (by simpa using hs2.lt) (hs2.free 4);have jd:=aa hs2;have ju:=aa hl2;clear hs2 hb2 hl2
 go_wp2_with fail
 refine aK 27 (by kernel_rfl) (by simp) (by kernel_rfl) (by kernel_rfl) (by kernel_rfl) (by kernel_rfl) (by kernel_rfl) ?_;simp only [List.take_succ_cons,List.take_zero,List.drop_succ_cons,List.drop_zero]
 repeat (go_big_quiet_step ((first | (go_at_call 24;exact cS (cW cj br pc cv ea _ c0 c1)) | (go_at_call 25;exact cS (dr pi br pc cv ea _ p0 p1)))))
 refine wpQuiet_nil ?_;intro _ hw';obtain ⟨u,hw''⟩:=hw';subst hw'';have hs3:aX (ext w1 u) g tl la cj pi true:=jd.out.below u.ok jd.out.lt;have je:=bH ju.out u;have hz:=cX (ext w1 u) g (.bool true) (.int .i64 br) (.int .u8 (aP cj cv)) (.int .u8 (bp pi br pc)) (.bool false) hs3;have HZ:=aa hz;have ji:=aa je;clear hs3 je hz jd ju;go_wp2;go_ret;exact ⟨rfl,HZ.out.1,(But.ofBelow ji.out).trans (HZ.out.2.mono ji.out.size)⟩
theorem gO(g:Nat)(tl:Bool)(la cj pi:Int)(od:Bool)(br:Int)(pc:Bool)(cv ea:Int)(w:World)(hs:aX w g tl la cj pi od)(c0:0<=cj)(c1:cj<=255)(p0:0<=pi)(p1:pi<=255) :
  Calls Try.prog 18 #[.pointer (some ⟨g,0,none⟩),.agg #[.int .i64 br,.bool pc,.int .i64 cv,.int .i64 ea]] w (bL w g (aW tl la cj pi od br pc cv) true br (aP cj cv) (bp pi br pc) (br == 6 && !od)):=by
 cases h6:(br == 6) <;> cases od
 ·exact dU g tl la cj pi br pc cv ea w hs c0 c1 p0 p1 h6
 ·exact ev g tl la cj pi br pc cv ea w hs c0 c1 p0 p1 h6
 ·exact dM g tl la cj pi br pc cv ea w hs c0 c1 p0 p1 h6
 ·exact dV g tl la cj pi br pc cv ea w hs c0 c1 p0 p1 h6
end Go.Proofs.Ythdphijabffpiaa
