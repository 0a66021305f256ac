import Derived.Test.YtoeggiplcaegoaaGreatDoorZ0
import Derived.Test.YtoeggiplcaegoaaGreatDoorMg3
import Derived.Test.YtoeggiplcaegoaaGreatDoorMg1
set_option maxRecDepth 100000
set_option linter.unusedVariables false
set_option linter.unusedSimpArgs false
set_option maxHeartbeats 400000
namespace Go.Proofs.YtoeggiplcaegoaaGreatDoor
open Go.RowKit Go.ChangeShapes Go.WideShapes
def pO(n:Int):Int:=if 1<n then 2 else 1
def ez(c n a:Int):Int:=if c<ay a - pO n then c+pO n else ay a - 1
def eA(c n a:Int)(au:Bool):Bool:=if c<ay a - pO n then false else au
theorem vY(r c:Int)(p:Bool)(n:Int)(hn:n<1)(a:Int)(au:Bool)(w:World)(hc : -9223372036854775808<=c)(h2:c<ay a - 1):Calls Tryz.prog 116 #[.agg #[.int .i64 r,.int .i64 c,.bool p],.int .i64 n,.int .i64 a,.bool au] w (Gives w (.agg #[.int .i64 r,.int .i64 (c+1),.bool false])):=by
 have ka:=bJ a
 go_enter Tryz.func116,Tryz.ntmps116
 go_wp2_with fail
 refine (cq a _).mono ?_;rintro e w' ⟨rfl,rfl⟩;obtain ⟨W,hW,hb,hr,hl⟩:=ed w (Value.int .i64 r) (.int .i64 c) (.bool p);rw [<-hW];have c0:=hb.cell 0 _ rfl;have c1:=hb.cell 1 _ rfl;have k0:=hr.cell 0 _ rfl;have k1:=hr.cell 1 _ rfl;have k2:=hr.cell 2 _ rfl;have g0:=hr.free 0;have g1:=hr.free 1;have g2:=hr.free 2;have hlt:=hr.lt;have hbl:=fun x y z=>hl.trans ((fa W (w.heap.size+1) x y z).below (B':=w.heap.size) hl.size (by omega))
 have A0:=ab hbl;clear hb hr hl hW hbl;go_wp2;exact bodyPost_ret (v:=.agg #[.int .i64 r,.int .i64 (c+1),.bool false]) (by simp [results,Tryz.results116,go_sem,k0,k1,k2] <;> omega) rfl ⟨rfl,A0.out _ _ _⟩
theorem vZ(r c:Int)(p:Bool)(n:Int)(hn:n<1)(a:Int)(au:Bool)(w:World)(hc : -9223372036854775808<=c)(h2:¬ c<ay a - 1):Calls Tryz.prog 116 #[.agg #[.int .i64 r,.int .i64 c,.bool p],.int .i64 n,.int .i64 a,.bool au] w (Gives w (.agg #[.int .i64 r,.int .i64 (ay a - 1),.bool au])):=by
 have ka:=bJ a
 go_enter Tryz.func116,Tryz.ntmps116
 go_wp2_with fail
 refine (cq a _).mono ?_;rintro e w' ⟨rfl,rfl⟩;obtain ⟨W,hW,hb,hr,hl⟩:=ed w (Value.int .i64 r) (.int .i64 c) (.bool p);rw [<-hW];have c0:=hb.cell 0 _ rfl;have c1:=hb.cell 1 _ rfl;have k0:=hr.cell 0 _ rfl;have k1:=hr.cell 1 _ rfl;have k2:=hr.cell 2 _ rfl;have g0:=hr.free 0;have g1:=hr.free 1;have g2:=hr.free 2;have hlt:=hr.lt;have hbl:=fun x y z=>hl.trans ((fa W (w.heap.size+1) x y z).below (B':=w.heap.size) hl.size (by omega))
 have A0:=ab hbl;clear hb hr hl hW hbl;go_wp2;exact bodyPost_ret (v:=.agg #[.int .i64 r,.int .i64 (ay a - 1),.bool au]) (by simp [results,Tryz.results116,go_sem,k0,k1,k2] <;> omega) rfl ⟨rfl,A0.out _ _ _⟩
theorem wg(r c:Int)(p:Bool)(a:Int)(au:Bool)(w:World)(hc : -9223372036854775808<=c)(h2:c<ay a - 1):Calls Tryz.prog 116 #[.agg #[.int .i64 r,.int .i64 c,.bool p],.int .i64 1,.int .i64 a,.bool au] w (Gives w (.agg #[.int .i64 r,.int .i64 (c+1),.bool false])):=by
 have ka:=bJ a
 go_enter Tryz.func116,Tryz.ntmps116
 go_wp2_with fail
 refine (cq a _).mono ?_;rintro e w' ⟨rfl,rfl⟩;obtain ⟨W,hW,hb,hr,hl⟩:=ed w (Value.int .i64 r) (.int .i64 c) (.bool p);rw [<-hW];have c0:=hb.cell 0 _ rfl;have c1:=hb.cell 1 _ rfl;have k0:=hr.cell 0 _ rfl;have k1:=hr.cell 1 _ rfl;have k2:=hr.cell 2 _ rfl;have g0:=hr.free 0;have g1:=hr.free 1;have g2:=hr.free 2;have hlt:=hr.lt;have hbl:=fun x y z=>hl.trans ((fa W (w.heap.size+1) x y z).below (B':=w.heap.size) hl.size (by omega))
 have A0:=ab hbl;clear hb hr hl hW hbl;go_wp2;exact bodyPost_ret (v:=.agg #[.int .i64 r,.int .i64 (c+1),.bool false]) (by simp [results,Tryz.results116,go_sem,k0,k1,k2] <;> omega) rfl ⟨rfl,A0.out _ _ _⟩
theorem wh(r c:Int)(p:Bool)(a:Int)(au:Bool)(w:World)(hc : -9223372036854775808<=c)(h2:¬ c<ay a - 1):Calls Tryz.prog 116 #[.agg #[.int .i64 r,.int .i64 c,.bool p],.int .i64 1,.int .i64 a,.bool au] w (Gives w (.agg #[.int .i64 r,.int .i64 (ay a - 1),.bool au])):=by
 have ka:=bJ a
 go_enter Tryz.func116,Tryz.ntmps116
 go_wp2_with fail
 refine (cq a _).mono ?_;rintro e w' ⟨rfl,rfl⟩;obtain ⟨W,hW,hb,hr,hl⟩:=ed w (Value.int .i64 r) (.int .i64 c) (.bool p);rw [<-hW];have c0:=hb.cell 0 _ rfl;have c1:=hb.cell 1 _ rfl;have k0:=hr.cell 0 _ rfl;have k1:=hr.cell 1 _ rfl;have k2:=hr.cell 2 _ rfl;have g0:=hr.free 0;have g1:=hr.free 1;have g2:=hr.free 2;have hlt:=hr.lt;have hbl:=fun x y z=>hl.trans ((fa W (w.heap.size+1) x y z).below (B':=w.heap.size) hl.size (by omega))
 have A0:=ab hbl;clear hb hr hl hW hbl;go_wp2;exact bodyPost_ret (v:=.agg #[.int .i64 r,.int .i64 (ay a - 1),.bool au]) (by simp [results,Tryz.results116,go_sem,k0,k1,k2] <;> omega) rfl ⟨rfl,A0.out _ _ _⟩
theorem wj(r c:Int)(p:Bool)(a:Int)(au:Bool)(w:World)(hc : -9223372036854775808<=c)(h2:c<ay a - 2):Calls Tryz.prog 116 #[.agg #[.int .i64 r,.int .i64 c,.bool p],.int .i64 2,.int .i64 a,.bool au] w (Gives w (.agg #[.int .i64 r,.int .i64 (c+2),.bool false])):=by
 have ka:=bJ a
 go_enter Tryz.func116,Tryz.ntmps116
 go_wp2_with fail
 refine (cq a _).mono ?_;rintro e w' ⟨rfl,rfl⟩;obtain ⟨W,hW,hb,hr,hl⟩:=ed w (Value.int .i64 r) (.int .i64 c) (.bool p);rw [<-hW];have c0:=hb.cell 0 _ rfl;have c1:=hb.cell 1 _ rfl;have k0:=hr.cell 0 _ rfl;have k1:=hr.cell 1 _ rfl;have k2:=hr.cell 2 _ rfl;have g0:=hr.free 0;have g1:=hr.free 1;have g2:=hr.free 2;have hlt:=hr.lt;have hbl:=fun x y z=>hl.trans ((fa W (w.heap.size+1) x y z).below (B':=w.heap.size) hl.size (by omega))
 have A0:=ab hbl;clear hb hr hl hW hbl;go_wp2;exact bodyPost_ret (v:=.agg #[.int .i64 r,.int .i64 (c+2),.bool false]) (by simp [results,Tryz.results116,go_sem,k0,k1,k2] <;> omega) rfl ⟨rfl,A0.out _ _ _⟩
theorem wl(r c:Int)(p:Bool)(a:Int)(au:Bool)(w:World)(hc : -9223372036854775808<=c)(h2:¬ c<ay a - 2):Calls Tryz.prog 116 #[.agg #[.int .i64 r,.int .i64 c,.bool p],.int .i64 2,.int .i64 a,.bool au] w (Gives w (.agg #[.int .i64 r,.int .i64 (ay a - 1),.bool au])):=by
 have ka:=bJ a
 go_enter Tryz.func116,Tryz.ntmps116
 go_wp2_with fail
 refine (cq a _).mono ?_;rintro e w' ⟨rfl,rfl⟩;obtain ⟨W,hW,hb,hr,hl⟩:=ed w (Value.int .i64 r) (.int .i64 c) (.bool p);rw [<-hW];have c0:=hb.cell 0 _ rfl;have c1:=hb.cell 1 _ rfl;have k0:=hr.cell 0 _ rfl;have k1:=hr.cell 1 _ rfl;have k2:=hr.cell 2 _ rfl;have g0:=hr.free 0;have g1:=hr.free 1;have g2:=hr.free 2;have hlt:=hr.lt;have hbl:=fun x y z=>hl.trans ((fa W (w.heap.size+1) x y z).below (B':=w.heap.size) hl.size (by omega))
 have A0:=ab hbl;clear hb hr hl hW hbl;go_wp2;exact bodyPost_ret (v:=.agg #[.int .i64 r,.int .i64 (ay a - 1),.bool au]) (by simp [results,Tryz.results116,go_sem,k0,k1,k2] <;> omega) rfl ⟨rfl,A0.out _ _ _⟩
theorem wm(r c:Int)(p:Bool)(n:Int)(hn:2<n)(a:Int)(au:Bool)(w:World)(hc : -9223372036854775808<=c)(h2:c<ay a - 2):Calls Tryz.prog 116 #[.agg #[.int .i64 r,.int .i64 c,.bool p],.int .i64 n,.int .i64 a,.bool au] w (Gives w (.agg #[.int .i64 r,.int .i64 (c+2),.bool false])):=by
 have ka:=bJ a
 go_enter Tryz.func116,Tryz.ntmps116
 go_wp2_with fail
 refine (cq a _).mono ?_;rintro e w' ⟨rfl,rfl⟩;obtain ⟨W,hW,hb,hr,hl⟩:=ed w (Value.int .i64 r) (.int .i64 c) (.bool p);rw [<-hW];have c0:=hb.cell 0 _ rfl;have c1:=hb.cell 1 _ rfl;have k0:=hr.cell 0 _ rfl;have k1:=hr.cell 1 _ rfl;have k2:=hr.cell 2 _ rfl;have g0:=hr.free 0;have g1:=hr.free 1;have g2:=hr.free 2;have hlt:=hr.lt;have hbl:=fun x y z=>hl.trans ((fa W (w.heap.size+1) x y z).below (B':=w.heap.size) hl.size (by omega))
 have A0:=ab hbl;clear hb hr hl hW hbl;go_wp2;exact bodyPost_ret (v:=.agg #[.int .i64 r,.int .i64 (c+2),.bool false]) (by simp [results,Tryz.results116,go_sem,k0,k1,k2] <;> omega) rfl ⟨rfl,A0.out _ _ _⟩
theorem wu(r c:Int)(p:Bool)(n:Int)(hn:2<n)(a:Int)(au:Bool)(w:World)(hc : -9223372036854775808<=c)(h2:¬ c<ay a - 2):Calls Tryz.prog 116 #[.agg #[.int .i64 r,.int .i64 c,.bool p],.int .i64 n,.int .i64 a,.bool au] w (Gives w (.agg #[.int .i64 r,.int .i64 (ay a - 1),.bool au])):=by
 have ka:=bJ a
 go_enter Tryz.func116,Tryz.ntmps116
 go_wp2_with fail
 refine (cq a _).mono ?_;rintro e w' ⟨rfl,rfl⟩;obtain ⟨W,hW,hb,hr,hl⟩:=ed w (Value.int .i64 r) (.int .i64 c) (.bool p);rw [<-hW];have c0:=hb.cell 0 _ rfl;have c1:=hb.cell 1 _ rfl;have k0:=hr.cell 0 _ rfl;have k1:=hr.cell 1 _ rfl;have k2:=hr.cell 2 _ rfl;have g0:=hr.free 0;have g1:=hr.free 1;have g2:=hr.free 2;have hlt:=hr.lt;have hbl:=fun x y z=>hl.trans ((fa W (w.heap.size+1) x y z).below (B':=w.heap.size) hl.size (by omega))
 have A0:=ab hbl;clear hb hr hl hW hbl;go_wp2;exact bodyPost_ret (v:=.agg #[.int .i64 r,.int .i64 (ay a - 1),.bool au]) (by simp [results,Tryz.results116,go_sem,k0,k1,k2] <;> omega) rfl ⟨rfl,A0.out _ _ _⟩
theorem rl(r c:Int)(p:Bool)(n a:Int)(au:Bool)(w:World)(hc : -9223372036854775808<=c):Calls Tryz.prog 116 #[.agg #[.int .i64 r,.int .i64 c,.bool p],.int .i64 n,.int .i64 a,.bool au] w (Gives w (.agg #[.int .i64 r,.int .i64 (ez c n a),.bool (eA c n a au)])):=by
 unfold ez eA pO
 rcases (by omega:n<1\/n=1\/n=2\/2<n) with h | rfl | rfl | h
 ·rw [if_neg (show ¬ 1<n by omega)]
  by_cases h2:c<ay a - 1
  ·rw [if_pos h2,if_pos h2];exact vY r c p n h a au w hc h2
  ·rw [if_neg h2,if_neg h2];exact vZ r c p n h a au w hc h2
 ·rw [if_neg (show ¬ (1:Int)<1 by omega)]
  by_cases h2:c<ay a - 1
  ·rw [if_pos h2,if_pos h2];exact wg r c p a au w hc h2
  ·rw [if_neg h2,if_neg h2];exact wh r c p a au w hc h2
 ·rw [if_pos (show (1:Int)<2 by omega)]
  by_cases h2:c<ay a - 2
  ·rw [if_pos h2,if_pos h2];exact wj r c p a au w hc h2
  ·rw [if_neg h2,if_neg h2];exact wl r c p a au w hc h2
 ·rw [if_pos (show 1<n by omega)]
  by_cases h2:c<ay a - 2
  ·rw [if_pos h2,if_pos h2];exact wm r c p n h a au w hc h2
  ·rw [if_neg h2,if_neg h2];exact wu r c p n h a au w hc h2
theorem wA(r c:Int)(p:Bool)(n:Int)(hn:n<1)(a:Int)(au:Bool)(w:World)(hc : -9223372036854775808<=c)(h2:c<ay a - 1):Calls Tryz.prog 145 #[.agg #[.int .i64 r,.int .i64 c,.bool p],.int .i64 n,.int .i64 a,.bool au] w (Gives w (.agg #[.int .i64 r,.int .i64 (c+1),.bool false])):=by
 have ka:=bJ a
 go_enter Tryz.func145,Tryz.ntmps145
 go_wp2_with fail
 obtain ⟨W,hW,hb,hr,hl⟩:=ed w (Value.int .i64 r) (.int .i64 c) (.bool p);rw [<-hW];have HB:=ab hb;have HR:=ab hr;have HL:=ab hl;have e1:=aj (hb.cell 1 _ rfl);clear hb hr hl hW;refine aI (by kernel_rfl) (by kernel_rfl) ?_
 repeat (go_big_quiet_step ((go_at_call 163;exact aG (bF _ _))))
 refine wpQuiet_nil ?_;intro _ hw';obtain ⟨u,hw''⟩:=hw';subst hw'';obtain ⟨W2,hW2⟩:=ae (ext W u);rw [<-hW2];have hb2:Has W2 w.heap.size [Value.int .i64 r,.int .i64 c,.bool p] 24:=by rw [hW2];exact HB.out.below u.ok HB.out.lt
 have hr2:Has W2 (w.heap.size+1) [Value.int .i64 0,.int .i64 0,.bool false] 24:=by rw [hW2];exact HR.out.below u.ok HR.out.lt
 have hl2:Below w.heap.size w W2:=by rw [hW2];exact aW HL.out u
 clear hW2 HB HR HL e1;have c0:=hb2.cell 0 _ rfl;have c1:=hb2.cell 1 _ rfl;have k0:=hr2.cell 0 _ rfl;have k1:=hr2.cell 1 _ rfl;have k2:=hr2.cell 2 _ rfl;have g0:=hr2.free 0;have g1:=hr2.free 1;have g2:=hr2.free 2;have hlt:=hr2.lt;have hbl:=fun x y z=>hl2.trans ((fa W2 (w.heap.size+1) x y z).below (B':=w.heap.size) hl2.size (by omega))
 have A0:=ab hbl;clear hb2 hr2 hl2 hbl;go_wp2;exact bodyPost_ret (v:=.agg #[.int .i64 r,.int .i64 (c+1),.bool false]) (by simp [results,Tryz.results145,go_sem,k0,k1,k2] <;> omega) rfl ⟨rfl,A0.out _ _ _⟩
theorem wB(r c:Int)(p:Bool)(n:Int)(hn:n<1)(a:Int)(au:Bool)(w:World)(hc : -9223372036854775808<=c)(h2:¬ c<ay a - 1):Calls Tryz.prog 145 #[.agg #[.int .i64 r,.int .i64 c,.bool p],.int .i64 n,.int .i64 a,.bool au] w (Gives w (.agg #[.int .i64 r,.int .i64 (ay a - 1),.bool au])):=by
 have ka:=bJ a
 go_enter Tryz.func145,Tryz.ntmps145
 go_wp2_with fail
 obtain ⟨W,hW,hb,hr,hl⟩:=ed w (Value.int .i64 r) (.int .i64 c) (.bool p);rw [<-hW];have HB:=ab hb;have HR:=ab hr;have HL:=ab hl;have e1:=aj (hb.cell 1 _ rfl);clear hb hr hl hW;refine aI (by kernel_rfl) (by kernel_rfl) ?_
 repeat (go_big_quiet_step ((go_at_call 163;exact aG (bF _ _))))
 refine wpQuiet_nil ?_;intro _ hw';obtain ⟨u,hw''⟩:=hw';subst hw'';obtain ⟨W2,hW2⟩:=ae (ext W u);rw [<-hW2];have hb2:Has W2 w.heap.size [Value.int .i64 r,.int .i64 c,.bool p] 24:=by rw [hW2];exact HB.out.below u.ok HB.out.lt
 have hr2:Has W2 (w.heap.size+1) [Value.int .i64 0,.int .i64 0,.bool false] 24:=by rw [hW2];exact HR.out.below u.ok HR.out.lt
 have hl2:Below w.heap.size w W2:=by rw [hW2];exact aW HL.out u
 clear hW2 HB HR HL e1;have c0:=hb2.cell 0 _ rfl;have c1:=hb2.cell 1 _ rfl;have k0:=hr2.cell 0 _ rfl;have k1:=hr2.cell 1 _ rfl;have k2:=hr2.cell 2 _ rfl;have g0:=hr2.free 0;have g1:=hr2.free 1;have g2:=hr2.free 2;have hlt:=hr2.lt;have e0:=aj c0;have l0:=aj k0;have l1:=aj k1;have l2:=aj k2;have f0:=aD (by simpa using hlt) g0;have f1:=aD (by simpa using hlt) g1;have f2:=aD (by simpa using hlt) g2;have BR:=fun (u:Growth W2) x y z=>cQ hl2 u x y z (w.heap.size+1) (by omega)
 have Ct:=ab BR;clear hb2 hr2 hl2 BR
 go_wp2_with fail
 clear c0 c1 k0 k1 k2 g0 g1 g2;refine aC 7 (by kernel_rfl) (by simp) (by kernel_rfl) (by kernel_rfl) (by kernel_rfl) (by kernel_rfl) (by kernel_rfl) ?_;simp only [List.take_succ_cons,List.take_zero,List.drop_succ_cons,List.drop_zero]
 repeat (go_big_quiet_step ((go_at_call 163;exact aG (bF _ _))))
 refine wpQuiet_nil ?_;intro _ hw';obtain ⟨u,hw''⟩:=hw';subst hw'';go_wp2;exact bodyPost_ret (v:=.agg #[.int .i64 r,.int .i64 (ay a - 1),.bool au]) (by simp [results,Tryz.results145,go_sem,l0,l1,l2]) rfl ⟨rfl,Ct.out _ _ _ _⟩
theorem wC(r c:Int)(p:Bool)(a:Int)(au:Bool)(w:World)(hc : -9223372036854775808<=c)(h2:c<ay a - 1):Calls Tryz.prog 145 #[.agg #[.int .i64 r,.int .i64 c,.bool p],.int .i64 1,.int .i64 a,.bool au] w (Gives w (.agg #[.int .i64 r,.int .i64 (c+1),.bool false])):=by
 have ka:=bJ a
 go_enter Tryz.func145,Tryz.ntmps145
 go_wp2_with fail
 obtain ⟨W,hW,hb,hr,hl⟩:=ed w (Value.int .i64 r) (.int .i64 c) (.bool p);rw [<-hW];have HB:=ab hb;have HR:=ab hr;have HL:=ab hl;have e1:=aj (hb.cell 1 _ rfl);clear hb hr hl hW;refine aI (by kernel_rfl) (by kernel_rfl) ?_
 repeat (go_big_quiet_step ((go_at_call 163;exact aG (bF _ _))))
 refine wpQuiet_nil ?_;intro _ hw';obtain ⟨u,hw''⟩:=hw';subst hw'';obtain ⟨W2,hW2⟩:=ae (ext W u);rw [<-hW2];have hb2:Has W2 w.heap.size [Value.int .i64 r,.int .i64 c,.bool p] 24:=by rw [hW2];exact HB.out.below u.ok HB.out.lt
 have hr2:Has W2 (w.heap.size+1) [Value.int .i64 0,.int .i64 0,.bool false] 24:=by rw [hW2];exact HR.out.below u.ok HR.out.lt
 have hl2:Below w.heap.size w W2:=by rw [hW2];exact aW HL.out u
 clear hW2 HB HR HL e1;have c0:=hb2.cell 0 _ rfl;have c1:=hb2.cell 1 _ rfl;have k0:=hr2.cell 0 _ rfl;have k1:=hr2.cell 1 _ rfl;have k2:=hr2.cell 2 _ rfl;have g0:=hr2.free 0;have g1:=hr2.free 1;have g2:=hr2.free 2;have hlt:=hr2.lt;have hbl:=fun x y z=>hl2.trans ((fa W2 (w.heap.size+1) x y z).below (B':=w.heap.size) hl2.size (by omega))
 have A0:=ab hbl;clear hb2 hr2 hl2 hbl;go_wp2;exact bodyPost_ret (v:=.agg #[.int .i64 r,.int .i64 (c+1),.bool false]) (by simp [results,Tryz.results145,go_sem,k0,k1,k2] <;> omega) rfl ⟨rfl,A0.out _ _ _⟩
theorem wD(r c:Int)(p:Bool)(a:Int)(au:Bool)(w:World)(hc : -9223372036854775808<=c)(h2:¬ c<ay a - 1):Calls Tryz.prog 145 #[.agg #[.int .i64 r,.int .i64 c,.bool p],.int .i64 1,.int .i64 a,.bool au] w (Gives w (.agg #[.int .i64 r,.int .i64 (ay a - 1),.bool au])):=by
 have ka:=bJ a
 go_enter Tryz.func145,Tryz.ntmps145
 go_wp2_with fail
 obtain ⟨W,hW,hb,hr,hl⟩:=ed w (Value.int .i64 r) (.int .i64 c) (.bool p);rw [<-hW];have HB:=ab hb;have HR:=ab hr;have HL:=ab hl;have e1:=aj (hb.cell 1 _ rfl);clear hb hr hl hW;refine aI (by kernel_rfl) (by kernel_rfl) ?_
 repeat (go_big_quiet_step ((go_at_call 163;exact aG (bF _ _))))
 refine wpQuiet_nil ?_;intro _ hw';obtain ⟨u,hw''⟩:=hw';subst hw'';obtain ⟨W2,hW2⟩:=ae (ext W u);rw [<-hW2];have hb2:Has W2 w.heap.size [Value.int .i64 r,.int .i64 c,.bool p] 24:=by rw [hW2];exact HB.out.below u.ok HB.out.lt
 have hr2:Has W2 (w.heap.size+1) [Value.int .i64 0,.int .i64 0,.bool false] 24:=by rw [hW2];exact HR.out.below u.ok HR.out.lt
 have hl2:Below w.heap.size w W2:=by rw [hW2];exact aW HL.out u
 clear hW2 HB HR HL e1;have c0:=hb2.cell 0 _ rfl;have c1:=hb2.cell 1 _ rfl;have k0:=hr2.cell 0 _ rfl;have k1:=hr2.cell 1 _ rfl;have k2:=hr2.cell 2 _ rfl;have g0:=hr2.free 0;have g1:=hr2.free 1;have g2:=hr2.free 2;have hlt:=hr2.lt;have e0:=aj c0;have l0:=aj k0;have l1:=aj k1;have l2:=aj k2;have f0:=aD (by simpa using hlt) g0;have f1:=aD (by simpa using hlt) g1;have f2:=aD (by simpa using hlt) g2;have BR:=fun (u:Growth W2) x y z=>cQ hl2 u x y z (w.heap.size+1) (by omega)
 have Ct:=ab BR;clear hb2 hr2 hl2 BR
 go_wp2_with fail
 clear c0 c1 k0 k1 k2 g0 g1 g2;refine aC 7 (by kernel_rfl) (by simp) (by kernel_rfl) (by kernel_rfl) (by kernel_rfl) (by kernel_rfl) (by kernel_rfl) ?_;simp only [List.take_succ_cons,List.take_zero,List.drop_succ_cons,List.drop_zero]
 repeat (go_big_quiet_step ((go_at_call 163;exact aG (bF _ _))))
 refine wpQuiet_nil ?_;intro _ hw';obtain ⟨u,hw''⟩:=hw';subst hw'';go_wp2;exact bodyPost_ret (v:=.agg #[.int .i64 r,.int .i64 (ay a - 1),.bool au]) (by simp [results,Tryz.results145,go_sem,l0,l1,l2]) rfl ⟨rfl,Ct.out _ _ _ _⟩
theorem wE(r c:Int)(p:Bool)(a:Int)(au:Bool)(w:World)(hc : -9223372036854775808<=c)(h2:c<ay a - 2):Calls Tryz.prog 145 #[.agg #[.int .i64 r,.int .i64 c,.bool p],.int .i64 2,.int .i64 a,.bool au] w (Gives w (.agg #[.int .i64 r,.int .i64 (c+2),.bool false])):=by
 have ka:=bJ a
 go_enter Tryz.func145,Tryz.ntmps145
 go_wp2_with fail
 obtain ⟨W,hW,hb,hr,hl⟩:=ed w (Value.int .i64 r) (.int .i64 c) (.bool p);rw [<-hW];have HB:=ab hb;have HR:=ab hr;have HL:=ab hl;have e1:=aj (hb.cell 1 _ rfl);clear hb hr hl hW;refine aI (by kernel_rfl) (by kernel_rfl) ?_
 repeat (go_big_quiet_step ((go_at_call 163;exact aG (bF _ _))))
 refine wpQuiet_nil ?_;intro _ hw';obtain ⟨u,hw''⟩:=hw';subst hw'';obtain ⟨W2,hW2⟩:=ae (ext W u);rw [<-hW2];have hb2:Has W2 w.heap.size [Value.int .i64 r,.int .i64 c,.bool p] 24:=by rw [hW2];exact HB.out.below u.ok HB.out.lt
 have hr2:Has W2 (w.heap.size+1) [Value.int .i64 0,.int .i64 0,.bool false] 24:=by rw [hW2];exact HR.out.below u.ok HR.out.lt
 have hl2:Below w.heap.size w W2:=by rw [hW2];exact aW HL.out u
 clear hW2 HB HR HL e1;have c0:=hb2.cell 0 _ rfl;have c1:=hb2.cell 1 _ rfl;have k0:=hr2.cell 0 _ rfl;have k1:=hr2.cell 1 _ rfl;have k2:=hr2.cell 2 _ rfl;have g0:=hr2.free 0;have g1:=hr2.free 1;have g2:=hr2.free 2;have hlt:=hr2.lt;have hbl:=fun x y z=>hl2.trans ((fa W2 (w.heap.size+1) x y z).below (B':=w.heap.size) hl2.size (by omega))
 have A0:=ab hbl;clear hb2 hr2 hl2 hbl;go_wp2;exact bodyPost_ret (v:=.agg #[.int .i64 r,.int .i64 (c+2),.bool false]) (by simp [results,Tryz.results145,go_sem,k0,k1,k2] <;> omega) rfl ⟨rfl,A0.out _ _ _⟩
theorem wF(r c:Int)(p:Bool)(a:Int)(au:Bool)(w:World)(hc : -9223372036854775808<=c)(h2:¬ c<ay a - 2):Calls Tryz.prog 145 #[.agg #[.int .i64 r,.int .i64 c,.bool p],.int .i64 2,.int .i64 a,.bool au] w (Gives w (.agg #[.int .i64 r,.int .i64 (ay a - 1),.bool au])):=by
 have ka:=bJ a
 go_enter Tryz.func145,Tryz.ntmps145
 go_wp2_with fail
 obtain ⟨W,hW,hb,hr,hl⟩:=ed w (Value.int .i64 r) (.int .i64 c) (.bool p);rw [<-hW];have HB:=ab hb;have HR:=ab hr;have HL:=ab hl;have e1:=aj (hb.cell 1 _ rfl);clear hb hr hl hW;refine aI (by kernel_rfl) (by kernel_rfl) ?_
 repeat (go_big_quiet_step ((go_at_call 163;exact aG (bF _ _))))
 refine wpQuiet_nil ?_;intro _ hw';obtain ⟨u,hw''⟩:=hw';subst hw'';obtain ⟨W2,hW2⟩:=ae (ext W u);rw [<-hW2];have hb2:Has W2 w.heap.size [Value.int .i64 r,.int .i64 c,.bool p] 24:=by rw [hW2];exact HB.out.below u.ok HB.out.lt
 have hr2:Has W2 (w.heap.size+1) [Value.int .i64 0,.int .i64 0,.bool false] 24:=by rw [hW2];exact HR.out.below u.ok HR.out.lt
 have hl2:Below w.heap.size w W2:=by rw [hW2];exact aW HL.out u
 clear hW2 HB HR HL e1;have c0:=hb2.cell 0 _ rfl;have c1:=hb2.cell 1 _ rfl;have k0:=hr2.cell 0 _ rfl;have k1:=hr2.cell 1 _ rfl;have k2:=hr2.cell 2 _ rfl;have g0:=hr2.free 0;have g1:=hr2.free 1;have g2:=hr2.free 2;have hlt:=hr2.lt;have e0:=aj c0;have l0:=aj k0;have l1:=aj k1;have l2:=aj k2;have f0:=aD (by simpa using hlt) g0;have f1:=aD (by simpa using hlt) g1;have f2:=aD (by simpa using hlt) g2;have BR:=fun (u:Growth W2) x y z=>cQ hl2 u x y z (w.heap.size+1) (by omega)
 have Ct:=ab BR;clear hb2 hr2 hl2 BR
 go_wp2_with fail
 clear c0 c1 k0 k1 k2 g0 g1 g2;refine aC 7 (by kernel_rfl) (by simp) (by kernel_rfl) (by kernel_rfl) (by kernel_rfl) (by kernel_rfl) (by kernel_rfl) ?_;simp only [List.take_succ_cons,List.take_zero,List.drop_succ_cons,List.drop_zero]
 repeat (go_big_quiet_step ((go_at_call 163;exact aG (bF _ _))))
 refine wpQuiet_nil ?_;intro _ hw';obtain ⟨u,hw''⟩:=hw';subst hw'';go_wp2;exact bodyPost_ret (v:=.agg #[.int .i64 r,.int .i64 (ay a - 1),.bool au]) (by simp [results,Tryz.results145,go_sem,l0,l1,l2]) rfl ⟨rfl,Ct.out _ _ _ _⟩
theorem wG(r c:Int)(p:Bool)(n:Int)(hn:2<n)(a:Int)(au:Bool)(w:World)(hc : -9223372036854775808<=c)(h2:c<ay a - 2):Calls Tryz.prog 145 #[.agg #[.int .i64 r,.int .i64 c,.bool p],.int .i64 n,.int .i64 a,.bool au] w (Gives w (.agg #[.int .i64 r,.int .i64 (c+2),.bool false])):=by
 have ka:=bJ a
 go_enter Tryz.func145,Tryz.ntmps145
 go_wp2_with fail
 obtain ⟨W,hW,hb,hr,hl⟩:=ed w (Value.int .i64 r) (.int .i64 c) (.bool p);rw [<-hW];have HB:=ab hb;have HR:=ab hr;have HL:=ab hl;have e1:=aj (hb.cell 1 _ rfl);clear hb hr hl hW;refine aI (by kernel_rfl) (by kernel_rfl) ?_
 repeat (go_big_quiet_step ((go_at_call 163;exact aG (bF _ _))))
 refine wpQuiet_nil ?_;intro _ hw';obtain ⟨u,hw''⟩:=hw';subst hw'';obtain ⟨W2,hW2⟩:=ae (ext W u);rw [<-hW2];have hb2:Has W2 w.heap.size [Value.int .i64 r,.int .i64 c,.bool p] 24:=by rw [hW2];exact HB.out.below u.ok HB.out.lt
 have hr2:Has W2 (w.heap.size+1) [Value.int .i64 0,.int .i64 0,.bool false] 24:=by rw [hW2];exact HR.out.below u.ok HR.out.lt
 have hl2:Below w.heap.size w W2:=by rw [hW2];exact aW HL.out u
 clear hW2 HB HR HL e1;have c0:=hb2.cell 0 _ rfl;have c1:=hb2.cell 1 _ rfl;have k0:=hr2.cell 0 _ rfl;have k1:=hr2.cell 1 _ rfl;have k2:=hr2.cell 2 _ rfl;have g0:=hr2.free 0;have g1:=hr2.free 1;have g2:=hr2.free 2;have hlt:=hr2.lt;have hbl:=fun x y z=>hl2.trans ((fa W2 (w.heap.size+1) x y z).below (B':=w.heap.size) hl2.size (by omega))
 have A0:=ab hbl;clear hb2 hr2 hl2 hbl;go_wp2;exact bodyPost_ret (v:=.agg #[.int .i64 r,.int .i64 (c+2),.bool false]) (by simp [results,Tryz.results145,go_sem,k0,k1,k2] <;> omega) rfl ⟨rfl,A0.out _ _ _⟩
theorem wH(r c:Int)(p:Bool)(n:Int)(hn:2<n)(a:Int)(au:Bool)(w:World)(hc : -9223372036854775808<=c)(h2:¬ c<ay a - 2):Calls Tryz.prog 145 #[.agg #[.int .i64 r,.int .i64 c,.bool p],.int .i64 n,.int .i64 a,.bool au] w (Gives w (.agg #[.int .i64 r,.int .i64 (ay a - 1),.bool au])):=by
 have ka:=bJ a
 go_enter Tryz.func145,Tryz.ntmps145
 go_wp2_with fail
 obtain ⟨W,hW,hb,hr,hl⟩:=ed w (Value.int .i64 r) (.int .i64 c) (.bool p);rw [<-hW];have HB:=ab hb;have HR:=ab hr;have HL:=ab hl;have e1:=aj (hb.cell 1 _ rfl);clear hb hr hl hW;refine aI (by kernel_rfl) (by kernel_rfl) ?_
 repeat (go_big_quiet_step ((go_at_call 163;exact aG (bF _ _))))
 refine wpQuiet_nil ?_;intro _ hw';obtain ⟨u,hw''⟩:=hw';subst hw'';obtain ⟨W2,hW2⟩:=ae (ext W u);rw [<-hW2];have hb2:Has W2 w.heap.size [Value.int .i64 r,.int .i64 c,.bool p] 24:=by rw [hW2];exact HB.out.below u.ok HB.out.lt
 have hr2:Has W2 (w.heap.size+1) [Value.int .i64 0,.int .i64 0,.bool false] 24:=by rw [hW2];exact HR.out.below u.ok HR.out.lt
 have hl2:Below w.heap.size w W2:=by rw [hW2];exact aW HL.out u
 clear hW2 HB HR HL e1;have c0:=hb2.cell 0 _ rfl;have c1:=hb2.cell 1 _ rfl;have k0:=hr2.cell 0 _ rfl;have k1:=hr2.cell 1 _ rfl;have k2:=hr2.cell 2 _ rfl;have g0:=hr2.free 0;have g1:=hr2.free 1;have g2:=hr2.free 2;have hlt:=hr2.lt;have e0:=aj c0;have l0:=aj k0;have l1:=aj k1;have l2:=aj k2;have f0:=aD (by simpa using hlt) g0;have f1:=aD (by simpa using hlt) g1;have f2:=aD (by simpa using hlt) g2;have BR:=fun (u:Growth W2) x y z=>cQ hl2 u x y z (w.heap.size+1) (by omega)
 have Ct:=ab BR;clear hb2 hr2 hl2 BR
 go_wp2_with fail
 clear c0 c1 k0 k1 k2 g0 g1 g2;refine aC 7 (by kernel_rfl) (by simp) (by kernel_rfl) (by kernel_rfl) (by kernel_rfl) (by kernel_rfl) (by kernel_rfl) ?_;simp only [List.take_succ_cons,List.take_zero,List.drop_succ_cons,List.drop_zero]
 repeat (go_big_quiet_step ((go_at_call 163;exact aG (bF _ _))))
 refine wpQuiet_nil ?_;intro _ hw';obtain ⟨u,hw''⟩:=hw';subst hw'';go_wp2;exact bodyPost_ret (v:=.agg #[.int .i64 r,.int .i64 (ay a - 1),.bool au]) (by simp [results,Tryz.results145,go_sem,l0,l1,l2]) rfl ⟨rfl,Ct.out _ _ _ _⟩
theorem rm(r c:Int)(p:Bool)(n a:Int)(au:Bool)(w:World)(hc : -9223372036854775808<=c):Calls Tryz.prog 145 #[.agg #[.int .i64 r,.int .i64 c,.bool p],.int .i64 n,.int .i64 a,.bool au] w (Gives w (.agg #[.int .i64 r,.int .i64 (ez c n a),.bool (eA c n a au)])):=by
 unfold ez eA pO
 rcases (by omega:n<1\/n=1\/n=2\/2<n) with h | rfl | rfl | h
 ·rw [if_neg (show ¬ 1<n by omega)]
  by_cases h2:c<ay a - 1
  ·rw [if_pos h2,if_pos h2];exact wA r c p n h a au w hc h2
  ·rw [if_neg h2,if_neg h2];exact wB r c p n h a au w hc h2
 ·rw [if_neg (show ¬ (1:Int)<1 by omega)]
  by_cases h2:c<ay a - 1
  ·rw [if_pos h2,if_pos h2];exact wC r c p a au w hc h2
  ·rw [if_neg h2,if_neg h2];exact wD r c p a au w hc h2
 ·rw [if_pos (show (1:Int)<2 by omega)]
  by_cases h2:c<ay a - 2
  ·rw [if_pos h2,if_pos h2];exact wE r c p a au w hc h2
  ·rw [if_neg h2,if_neg h2];exact wF r c p a au w hc h2
 ·rw [if_pos (show 1<n by omega)]
  by_cases h2:c<ay a - 2
  ·rw [if_pos h2,if_pos h2];exact wG r c p n h a au w hc h2
  ·rw [if_neg h2,if_neg h2];exact wH r c p n h a au w hc h2
end Go.Proofs.YtoeggiplcaegoaaGreatDoor
