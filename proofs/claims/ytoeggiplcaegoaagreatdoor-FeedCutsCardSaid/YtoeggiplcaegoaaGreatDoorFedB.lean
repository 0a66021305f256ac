import Derived.Test.YtoeggiplcaegoaaGreatDoorZ0
import Derived.Test.YtoeggiplcaegoaaGreatDoorFedA
set_option maxRecDepth 100000
set_option linter.unusedVariables false
set_option linter.unusedSimpArgs false
set_option maxHeartbeats 4000000
namespace Go.Proofs.YtoeggiplcaegoaaGreatDoor
open Go.RowKit Go.ChangeShapes Go.WideShapes
structure FY where
 gp:Nat
 l:Int
 b:Int
 h:Int
 op:Value
def eK(X:FY)(w:World)(g:Nat)(tl:Bool)(la cj pi:Int)(od:Bool):Prop:=Has w g [.pointer (some ⟨X.gp,0,none⟩),.int .u8 X.l,.int .i32 X.b,.int .i64 X.h,.bool tl,.int .i64 la,.int .u8 cj,.int .u8 pi,.bool od,X.op] 143
section
variable {X : FY}
theorem eT(g:Nat)(tl:Bool)(la cj pi:Int)(od:Bool)(br:Int)(pc:Bool)(cv ea:Int)(w:World)(hs:eK X w g tl la cj pi od) :
  Calls Tryz.prog 201 #[.pointer (some ⟨g,4,none⟩),.agg #[.int .i64 br,.bool pc,.int .i64 cv,.int .i64 ea]] w (Gives w (.bool (cC tl la cj pi od br pc cv))):=by
 rcases pG tl la cj pi od br pc cv with ⟨rfl,hv⟩ | ⟨rfl,h1,hv⟩ | ⟨rfl,h1,h2,h3,hv⟩ | ⟨rfl,h1,h2 | ⟨h2,Kf⟩,rfl,h3,hv⟩ | ⟨rfl,h1,h2 | ⟨h2,Kf⟩,rfl | ⟨rfl,h3⟩,⟨h4,hv⟩ | ⟨h4,hv⟩⟩
 ·rw [hv];have c0:=hs.cell 4 _ rfl;have hl:=hs.lt;clear hs hv
  go_enter Tryz.func201,Tryz.ntmps201
  go_wp2;go_ret;exact ⟨af,AU _ _⟩
 all_goals
  have HV:=ab hv;have cw:=hs.cell 4 _ rfl;have hlw:=hs.lt;clear hv
  go_enter Tryz.func201,Tryz.ntmps201
  go_wp2_with fail
  obtain ⟨W,hW,hb,hl⟩:=wK w br _ cv ea;rw [<-hW];have hs1:eK X W g true la cj pi od:=by rw [hW];exact hs.alloc _
  have c0:=hs1.cell 4 _ rfl;have e0:=aj (hb.cell 0 _ rfl);have e1:=aj (hs1.cell 5 _ rfl);have HB:=ab hb;have HS:=ab hs1;have HL:=ab hl;clear hb hs1 hl hW hs cw hlw;refine aJ (by kernel_rfl) (by kernel_rfl) ?_
  repeat (go_big_quiet_step ((go_at_call 249;exact aG (wL la br _))))
  refine wpQuiet_nil ?_;intro _ hw';obtain ⟨u,hw''⟩:=hw';subst hw'';obtain ⟨W2,hW2⟩:=ae (ext W u);rw [<-hW2];have hb2:=HB.out.below u.ok HB.out.lt;rw [show u.tz9=W2 from hW2.symm] at hb2;have hs2:eK X W2 g true la cj pi od:=by rw [hW2];exact HS.out.below u.ok HS.out.lt
  have hl2:Below w.heap.size w W2:=by rw [hW2];exact aU HL.out u
  clear hW2 HB HS HL e0 e1 c0;have b0:=hb2.cell 0 _ rfl;have b1:=hb2.cell 1 _ rfl;have b2:=hb2.cell 2 _ rfl;have c2:=hs2.cell 6 _ rfl;have c3:=hs2.cell 7 _ rfl;have c4:=hs2.cell 8 _ rfl;clear hb2 hs2;go_wp2;go_ret;exact ⟨al (by rw [HV.out];rfl),hl2⟩
def dF(X:FY)(w:World)(g:Nat)(j:Bool)(tl:Bool)(la cj pi:Int)(od:Bool)(e:Ending)(w':World):Prop:=e=.returned (.bool j)/\eK X w' g tl la cj pi od/\But g w.heap.size w w'
theorem eG(w:World)(g:Nat)(a b c d e:Value){tl:Bool}{la cj pi:Int}{od:Bool}(h:eK X w g tl la cj pi od) :
  Has (((((w.setCell ⟨g,4,none⟩ a).setCell ⟨g,5,none⟩ b).setCell ⟨g,6,none⟩ c).setCell ⟨g,7,none⟩ d).setCell ⟨g,8,none⟩ e) g [.pointer (some ⟨X.gp,0,none⟩),.int .u8 X.l,.int .i32 X.b,.int .i64 X.h,a,b,c,d,e,X.op] 143 /\
  But g w.heap.size w (((((w.setCell ⟨g,4,none⟩ a).setCell ⟨g,5,none⟩ b).setCell ⟨g,6,none⟩ c).setCell ⟨g,7,none⟩ d).setCell ⟨g,8,none⟩ e) :=
 ⟨((((h.set 4 a).set 5 b).set 6 c).set 7 d).set 8 e,(((((But.refl _ _ _).set 4 _).set 5 _).set 6 _).set 7 _).set 8 _⟩
theorem kl(g:Nat)(tl:Bool)(la cj pi:Int)(br:Int)(pc:Bool)(cv ea:Int)(w:World)(hs:eK X w g tl la cj pi false)(c0:0<=cj)(c1:cj<=255)(p0:0<=pi)(p1:pi<=255)(h6:(br == 6)=false) :
  Calls Tryz.prog 150 #[.pointer (some ⟨g,4,none⟩),.agg #[.int .i64 br,.bool pc,.int .i64 cv,.int .i64 ea]] w (dF X w g (cC tl la cj pi false br pc cv) true br (dn cj cv) (eB pi br pc) false):=by
 have HS:=ab hs;have hg:=hs.lt;clear hs
 go_enter Tryz.func150,Tryz.ntmps150
 go_wp2_with fail
 obtain ⟨W,hW,hb,hl⟩:=wK w br pc cv ea;rw [<-hW];have hs1:eK X W g tl la cj pi false:=by rw [hW];exact HS.out.alloc _
 clear hW HS;refine (eT g tl la cj pi false br pc cv ea W hs1).mono ?_;rintro e w1 ⟨rfl,b1⟩;have hs2:eK X w1 g tl la cj pi false:=hs1.below b1 hs1.lt;have hb2:=hb.below b1 hb.lt;have hl2:=hl.trans (b1.mono hl.size);clear hs1 hb hl b1;have e0:=aj (hb2.cell 0 _ rfl);have e1:=aj (hb2.cell 1 _ rfl);have e2:=aj (hb2.cell 2 _ rfl);have e3:=aj (hb2.cell 3 _ rfl);have s0:=aj (hs2.cell 4 _ rfl);have s1:=aj (hs2.cell 5 _ rfl);have s2:=aj (hs2.cell 6 _ rfl);have s3:=aj (hs2.cell 7 _ rfl);have s4:=aj (hs2.cell 8 _ rfl);have f0:=aD (by simpa using hs2.lt) (hs2.free 4);have f1:=aD (by simpa using hs2.lt) (hs2.free 5);have f2:=aD (by simpa using hs2.lt) (hs2.free 6);have f3:=aD (by simpa using hs2.lt) (hs2.free 7);have f4:=aD (by simpa using hs2.lt) (hs2.free 8);have D0:=ab hs2;have Kn:=ab hl2;clear hs2 hb2 hl2
 go_wp2_with fail
 refine aC 27 (by kernel_rfl) (by simp) (by kernel_rfl) (by kernel_rfl) (by kernel_rfl) (by kernel_rfl) (by kernel_rfl) ?_;simp only [List.take_succ_cons,List.take_zero,List.drop_succ_cons,List.drop_zero]
 repeat (go_big_quiet_step ((first | (go_at_call 202;exact ei (jp cj br pc cv ea _ c0 c1)) | (go_at_call 203;exact ei (kW pi br pc cv ea _ p0 p1)))))
 refine wpQuiet_nil ?_;intro _ hw';obtain ⟨u,hw''⟩:=hw';subst hw'';have hs3:eK X (ext w1 u) g tl la cj pi false:=D0.out.below u.ok D0.out.lt;have Dz:=aU Kn.out u;have hz:=eG (ext w1 u) g (.bool true) (.int .i64 br) (.int .u8 (dn cj cv)) (.int .u8 (eB pi br pc)) (.bool false) hs3;have HZ:=ab hz;have C5:=ab Dz;clear hs3 Dz hz D0 Kn;go_wp2;go_ret;exact ⟨rfl,HZ.out.1,(But.ofBelow C5.out).trans (HZ.out.2.mono C5.out.size)⟩
theorem jD(g:Nat)(tl:Bool)(la cj pi:Int)(br:Int)(pc:Bool)(cv ea:Int)(w:World)(hs:eK X w g tl la cj pi false)(c0:0<=cj)(c1:cj<=255)(p0:0<=pi)(p1:pi<=255)(h6:(br == 6)=true) :
  Calls Tryz.prog 150 #[.pointer (some ⟨g,4,none⟩),.agg #[.int .i64 br,.bool pc,.int .i64 cv,.int .i64 ea]] w (dF X w g (cC tl la cj pi false br pc cv) true br (dn cj cv) (eB pi br pc) true):=by
 have HS:=ab hs;have hg:=hs.lt;clear hs
 go_enter Tryz.func150,Tryz.ntmps150
 go_wp2_with fail
 obtain ⟨W,hW,hb,hl⟩:=wK w br pc cv ea;rw [<-hW];have hs1:eK X W g tl la cj pi false:=by rw [hW];exact HS.out.alloc _
 clear hW HS;refine (eT g tl la cj pi false br pc cv ea W hs1).mono ?_;rintro e w1 ⟨rfl,b1⟩;have hs2:eK X w1 g tl la cj pi false:=hs1.below b1 hs1.lt;have hb2:=hb.below b1 hb.lt;have hl2:=hl.trans (b1.mono hl.size);clear hs1 hb hl b1;have e0:=aj (hb2.cell 0 _ rfl);have e1:=aj (hb2.cell 1 _ rfl);have e2:=aj (hb2.cell 2 _ rfl);have e3:=aj (hb2.cell 3 _ rfl);have s0:=aj (hs2.cell 4 _ rfl);have s1:=aj (hs2.cell 5 _ rfl);have s2:=aj (hs2.cell 6 _ rfl);have s3:=aj (hs2.cell 7 _ rfl);have s4:=aj (hs2.cell 8 _ rfl);have f0:=aD (by simpa using hs2.lt) (hs2.free 4);have f1:=aD (by simpa using hs2.lt) (hs2.free 5);have f2:=aD (by simpa using hs2.lt) (hs2.free 6);have f3:=aD (by simpa using hs2.lt) (hs2.free 7);have f4:=aD (by simpa using hs2.lt) (hs2.free 8);have D0:=ab hs2;have Kn:=ab hl2;clear hs2 hb2 hl2
 go_wp2_with fail
 refine aC 27 (by kernel_rfl) (by simp) (by kernel_rfl) (by kernel_rfl) (by kernel_rfl) (by kernel_rfl) (by kernel_rfl) ?_;simp only [List.take_succ_cons,List.take_zero,List.drop_succ_cons,List.drop_zero]
 repeat (go_big_quiet_step ((first | (go_at_call 202;exact ei (jp cj br pc cv ea _ c0 c1)) | (go_at_call 203;exact ei (kW pi br pc cv ea _ p0 p1)))))
 refine wpQuiet_nil ?_;intro _ hw';obtain ⟨u,hw''⟩:=hw';subst hw'';have hs3:eK X (ext w1 u) g tl la cj pi false:=D0.out.below u.ok D0.out.lt;have Dz:=aU Kn.out u;have hz:=eG (ext w1 u) g (.bool true) (.int .i64 br) (.int .u8 (dn cj cv)) (.int .u8 (eB pi br pc)) (.bool true) hs3;have HZ:=ab hz;have C5:=ab Dz;clear hs3 Dz hz D0 Kn;go_wp2;go_ret;exact ⟨rfl,HZ.out.1,(But.ofBelow C5.out).trans (HZ.out.2.mono C5.out.size)⟩
theorem kP(g:Nat)(tl:Bool)(la cj pi:Int)(br:Int)(pc:Bool)(cv ea:Int)(w:World)(hs:eK X w g tl la cj pi true)(c0:0<=cj)(c1:cj<=255)(p0:0<=pi)(p1:pi<=255)(h6:(br == 6)=false) :
  Calls Tryz.prog 150 #[.pointer (some ⟨g,4,none⟩),.agg #[.int .i64 br,.bool pc,.int .i64 cv,.int .i64 ea]] w (dF X w g (cC tl la cj pi true br pc cv) true br (dn cj cv) (eB pi br pc) false):=by
 have HS:=ab hs;have hg:=hs.lt;clear hs
 go_enter Tryz.func150,Tryz.ntmps150
 go_wp2_with fail
 obtain ⟨W,hW,hb,hl⟩:=wK w br pc cv ea;rw [<-hW];have hs1:eK X W g tl la cj pi true:=by rw [hW];exact HS.out.alloc _
 clear hW HS;refine (eT g tl la cj pi true br pc cv ea W hs1).mono ?_;rintro e w1 ⟨rfl,b1⟩;have hs2:eK X w1 g tl la cj pi true:=hs1.below b1 hs1.lt;have hb2:=hb.below b1 hb.lt;have hl2:=hl.trans (b1.mono hl.size);clear hs1 hb hl b1;have e0:=aj (hb2.cell 0 _ rfl);have e1:=aj (hb2.cell 1 _ rfl);have e2:=aj (hb2.cell 2 _ rfl);have e3:=aj (hb2.cell 3 _ rfl);have s0:=aj (hs2.cell 4 _ rfl);have s1:=aj (hs2.cell 5 _ rfl);have s2:=aj (hs2.cell 6 _ rfl);have s3:=aj (hs2.cell 7 _ rfl);have s4:=aj (hs2.cell 8 _ rfl);have f0:=aD (by simpa using hs2.lt) (hs2.free 4);have f1:=aD (by simpa using hs2.lt) (hs2.free 5);have f2:=aD (by simpa using hs2.lt) (hs2.free 6);have f3:=aD (by simpa using hs2.lt) (hs2.free 7);have f4:=aD (by simpa using hs2.lt) (hs2.free 8);have D0:=ab hs2;have Kn:=ab hl2;clear hs2 hb2 hl2
 go_wp2_with fail
 refine aC 27 (by kernel_rfl) (by simp) (by kernel_rfl) (by kernel_rfl) (by kernel_rfl) (by kernel_rfl) (by kernel_rfl) ?_;simp only [List.take_succ_cons,List.take_zero,List.drop_succ_cons,List.drop_zero]
 repeat (go_big_quiet_step ((first | (go_at_call 202;exact ei (jp cj br pc cv ea _ c0 c1)) | (go_at_call 203;exact ei (kW pi br pc cv ea _ p0 p1)))))
 refine wpQuiet_nil ?_;intro _ hw';obtain ⟨u,hw''⟩:=hw';subst hw'';have hs3:eK X (ext w1 u) g tl la cj pi true:=D0.out.below u.ok D0.out.lt;have Dz:=aU Kn.out u;have hz:=eG (ext w1 u) g (.bool true) (.int .i64 br) (.int .u8 (dn cj cv)) (.int .u8 (eB pi br pc)) (.bool false) hs3;have HZ:=ab hz;have C5:=ab Dz;clear hs3 Dz hz D0 Kn;go_wp2;go_ret;exact ⟨rfl,HZ.out.1,(But.ofBelow C5.out).trans (HZ.out.2.mono C5.out.size)⟩
theorem km(g:Nat)(tl:Bool)(la cj pi:Int)(br:Int)(pc:Bool)(cv ea:Int)(w:World)(hs:eK X w g tl la cj pi true)(c0:0<=cj)(c1:cj<=255)(p0:0<=pi)(p1:pi<=255)(h6:(br == 6)=true) :
  Calls Tryz.prog 150 #[.pointer (some ⟨g,4,none⟩),.agg #[.int .i64 br,.bool pc,.int .i64 cv,.int .i64 ea]] w (dF X w g (cC tl la cj pi true br pc cv) true br (dn cj cv) (eB pi br pc) false):=by
 have HS:=ab hs;have hg:=hs.lt;clear hs
 go_enter Tryz.func150,Tryz.ntmps150
 go_wp2_with fail
 obtain ⟨W,hW,hb,hl⟩:=wK w br pc cv ea;rw [<-hW];have hs1:eK X W g tl la cj pi true:=by rw [hW];exact HS.out.alloc _
 clear hW HS;refine (eT g tl la cj pi true br pc cv ea W hs1).mono ?_;rintro e w1 ⟨rfl,b1⟩;have hs2:eK X w1 g tl la cj pi true:=hs1.below b1 hs1.lt;have hb2:=hb.below b1 hb.lt;have hl2:=hl.trans (b1.mono hl.size);clear hs1 hb hl b1;have e0:=aj (hb2.cell 0 _ rfl);have e1:=aj (hb2.cell 1 _ rfl);have e2:=aj (hb2.cell 2 _ rfl);have e3:=aj (hb2.cell 3 _ rfl);have s0:=aj (hs2.cell 4 _ rfl);have s1:=aj (hs2.cell 5 _ rfl);have s2:=aj (hs2.cell 6 _ rfl);have s3:=aj (hs2.cell 7 _ rfl);have s4:=aj (hs2.cell 8 _ rfl);have f0:=aD (by simpa using hs2.lt) (hs2.free 4);have f1:=aD (by simpa using hs2.lt) (hs2.free 5);have f2:=aD (by simpa using hs2.lt) (hs2.free 6);have f3:=aD (by simpa using hs2.lt) (hs2.free 7);have f4:=aD (by simpa using hs2.lt) (hs2.free 8);have D0:=ab hs2;have Kn:=ab hl2;clear hs2 hb2 hl2
 go_wp2_with fail
 refine aC 27 (by kernel_rfl) (by simp) (by kernel_rfl) (by kernel_rfl) (by kernel_rfl) (by kernel_rfl) (by kernel_rfl) ?_;simp only [List.take_succ_cons,List.take_zero,List.drop_succ_cons,List.drop_zero]
 repeat (go_big_quiet_step ((first | (go_at_call 202;exact ei (jp cj br pc cv ea _ c0 c1)) | (go_at_call 203;exact ei (kW pi br pc cv ea _ p0 p1)))))
 refine wpQuiet_nil ?_;intro _ hw';obtain ⟨u,hw''⟩:=hw';subst hw'';have hs3:eK X (ext w1 u) g tl la cj pi true:=D0.out.below u.ok D0.out.lt;have Dz:=aU Kn.out u;have hz:=eG (ext w1 u) g (.bool true) (.int .i64 br) (.int .u8 (dn cj cv)) (.int .u8 (eB pi br pc)) (.bool false) hs3;have HZ:=ab hz;have C5:=ab Dz;clear hs3 Dz hz D0 Kn;go_wp2;go_ret;exact ⟨rfl,HZ.out.1,(But.ofBelow C5.out).trans (HZ.out.2.mono C5.out.size)⟩
theorem qr(g:Nat)(tl:Bool)(la cj pi:Int)(od:Bool)(br:Int)(pc:Bool)(cv ea:Int)(w:World)(hs:eK X w g tl la cj pi od)(c0:0<=cj)(c1:cj<=255)(p0:0<=pi)(p1:pi<=255) :
  Calls Tryz.prog 150 #[.pointer (some ⟨g,4,none⟩),.agg #[.int .i64 br,.bool pc,.int .i64 cv,.int .i64 ea]] w (dF X w g (cC tl la cj pi od br pc cv) true br (dn cj cv) (eB pi br pc) (br == 6 && !od)):=by
 cases h6:(br == 6) <;> cases od
 ·exact kl g tl la cj pi br pc cv ea w hs c0 c1 p0 p1 h6
 ·exact kP g tl la cj pi br pc cv ea w hs c0 c1 p0 p1 h6
 ·exact jD g tl la cj pi br pc cv ea w hs c0 c1 p0 p1 h6
 ·exact km g tl la cj pi br pc cv ea w hs c0 c1 p0 p1 h6
end
end Go.Proofs.YtoeggiplcaegoaaGreatDoor
