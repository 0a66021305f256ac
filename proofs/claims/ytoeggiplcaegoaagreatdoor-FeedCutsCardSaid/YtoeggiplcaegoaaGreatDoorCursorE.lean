import Derived.Test.YtoeggiplcaegoaaGreatDoorZ0
import Derived.Test.YtoeggiplcaegoaaGreatDoorMg3
import Derived.Test.YtoeggiplcaegoaaGreatDoorMg1
set_option maxRecDepth 100000
set_option linter.unusedVariables false
set_option linter.unusedSimpArgs false
set_option maxHeartbeats 400000
namespace Go.Proofs.YtoeggiplcaegoaaGreatDoor
open Go.RowKit Go.ChangeShapes Go.WideShapes
def qk(n:Int):Int:=if 1<n then 2 else 1
def eE(c n a:Int):Int:=if c<ay a - qk n then c+qk n else ay a - 1
def eF(c n a:Int)(au:Bool):Bool:=if c<ay a - qk n then false else au
theorem xL(r c:Int)(p:Bool)(n:Int)(hn:n<1)(a:Int)(au:Bool)(w:World)(hc : -9223372036854775808<=c)(h2:c<ay a - 1):Calls Tryz.prog 116 #[.agg #[.int .i64 r,.int .i64 c,.bool p],.int .i64 n,.int .i64 a,.bool au] w (Gives w (.agg #[.int .i64 r,.int .i64 (c+1),.bool false])):=by
 have ka:=bH a
 go_enter Tryz.func116,Tryz.ntmps116
 go_wp2_with fail
 refine (cz a _).mono ?_;rintro e w' ⟨rfl,rfl⟩;obtain ⟨W,hW,hb,hr,hl⟩:=ek w (Value.int .i64 r) (.int .i64 c) (.bool p);rw [<-hW];have c0:=hb.cell 0 _ rfl;have c1:=hb.cell 1 _ rfl;have k0:=hr.cell 0 _ rfl;have k1:=hr.cell 1 _ rfl;have k2:=hr.cell 2 _ rfl;have g0:=hr.free 0;have g1:=hr.free 1;have g2:=hr.free 2;have hlt:=hr.lt;have hbl:=fun x y z=>hl.trans ((fd W (w.heap.size+1) x y z).below (B':=w.heap.size) hl.size (by omega))
 have Ca:=ab hbl;clear hb hr hl hW hbl;go_wp2;exact bodyPost_ret (v:=.agg #[.int .i64 r,.int .i64 (c+1),.bool false]) (by simp [results,Tryz.results116,go_sem,k0,k1,k2] <;> omega) rfl ⟨rfl,Ca.out _ _ _⟩
theorem xM(r c:Int)(p:Bool)(n:Int)(hn:n<1)(a:Int)(au:Bool)(w:World)(hc : -9223372036854775808<=c)(h2:¬ c<ay a - 1):Calls Tryz.prog 116 #[.agg #[.int .i64 r,.int .i64 c,.bool p],.int .i64 n,.int .i64 a,.bool au] w (Gives w (.agg #[.int .i64 r,.int .i64 (ay a - 1),.bool au])):=by
 have ka:=bH a
 go_enter Tryz.func116,Tryz.ntmps116
 go_wp2_with fail
 refine (cz a _).mono ?_;rintro e w' ⟨rfl,rfl⟩;obtain ⟨W,hW,hb,hr,hl⟩:=ek w (Value.int .i64 r) (.int .i64 c) (.bool p);rw [<-hW];have c0:=hb.cell 0 _ rfl;have c1:=hb.cell 1 _ rfl;have k0:=hr.cell 0 _ rfl;have k1:=hr.cell 1 _ rfl;have k2:=hr.cell 2 _ rfl;have g0:=hr.free 0;have g1:=hr.free 1;have g2:=hr.free 2;have hlt:=hr.lt;have hbl:=fun x y z=>hl.trans ((fd W (w.heap.size+1) x y z).below (B':=w.heap.size) hl.size (by omega))
 have Ca:=ab hbl;clear hb hr hl hW hbl;go_wp2;exact bodyPost_ret (v:=.agg #[.int .i64 r,.int .i64 (ay a - 1),.bool au]) (by simp [results,Tryz.results116,go_sem,k0,k1,k2] <;> omega) rfl ⟨rfl,Ca.out _ _ _⟩
theorem xN(r c:Int)(p:Bool)(a:Int)(au:Bool)(w:World)(hc : -9223372036854775808<=c)(h2:c<ay a - 1):Calls Tryz.prog 116 #[.agg #[.int .i64 r,.int .i64 c,.bool p],.int .i64 1,.int .i64 a,.bool au] w (Gives w (.agg #[.int .i64 r,.int .i64 (c+1),.bool false])):=by
 have ka:=bH a
 go_enter Tryz.func116,Tryz.ntmps116
 go_wp2_with fail
 refine (cz a _).mono ?_;rintro e w' ⟨rfl,rfl⟩;obtain ⟨W,hW,hb,hr,hl⟩:=ek w (Value.int .i64 r) (.int .i64 c) (.bool p);rw [<-hW];have c0:=hb.cell 0 _ rfl;have c1:=hb.cell 1 _ rfl;have k0:=hr.cell 0 _ rfl;have k1:=hr.cell 1 _ rfl;have k2:=hr.cell 2 _ rfl;have g0:=hr.free 0;have g1:=hr.free 1;have g2:=hr.free 2;have hlt:=hr.lt;have hbl:=fun x y z=>hl.trans ((fd W (w.heap.size+1) x y z).below (B':=w.heap.size) hl.size (by omega))
 have Ca:=ab hbl;clear hb hr hl hW hbl;go_wp2;exact bodyPost_ret (v:=.agg #[.int .i64 r,.int .i64 (c+1),.bool false]) (by simp [results,Tryz.results116,go_sem,k0,k1,k2] <;> omega) rfl ⟨rfl,Ca.out _ _ _⟩
theorem xO(r c:Int)(p:Bool)(a:Int)(au:Bool)(w:World)(hc : -9223372036854775808<=c)(h2:¬ c<ay a - 1):Calls Tryz.prog 116 #[.agg #[.int .i64 r,.int .i64 c,.bool p],.int .i64 1,.int .i64 a,.bool au] w (Gives w (.agg #[.int .i64 r,.int .i64 (ay a - 1),.bool au])):=by
 have ka:=bH a
 go_enter Tryz.func116,Tryz.ntmps116
 go_wp2_with fail
 refine (cz a _).mono ?_;rintro e w' ⟨rfl,rfl⟩;obtain ⟨W,hW,hb,hr,hl⟩:=ek w (Value.int .i64 r) (.int .i64 c) (.bool p);rw [<-hW];have c0:=hb.cell 0 _ rfl;have c1:=hb.cell 1 _ rfl;have k0:=hr.cell 0 _ rfl;have k1:=hr.cell 1 _ rfl;have k2:=hr.cell 2 _ rfl;have g0:=hr.free 0;have g1:=hr.free 1;have g2:=hr.free 2;have hlt:=hr.lt;have hbl:=fun x y z=>hl.trans ((fd W (w.heap.size+1) x y z).below (B':=w.heap.size) hl.size (by omega))
 have Ca:=ab hbl;clear hb hr hl hW hbl;go_wp2;exact bodyPost_ret (v:=.agg #[.int .i64 r,.int .i64 (ay a - 1),.bool au]) (by simp [results,Tryz.results116,go_sem,k0,k1,k2] <;> omega) rfl ⟨rfl,Ca.out _ _ _⟩
theorem xP(r c:Int)(p:Bool)(a:Int)(au:Bool)(w:World)(hc : -9223372036854775808<=c)(h2:c<ay a - 2):Calls Tryz.prog 116 #[.agg #[.int .i64 r,.int .i64 c,.bool p],.int .i64 2,.int .i64 a,.bool au] w (Gives w (.agg #[.int .i64 r,.int .i64 (c+2),.bool false])):=by
 have ka:=bH a
 go_enter Tryz.func116,Tryz.ntmps116
 go_wp2_with fail
 refine (cz a _).mono ?_;rintro e w' ⟨rfl,rfl⟩;obtain ⟨W,hW,hb,hr,hl⟩:=ek w (Value.int .i64 r) (.int .i64 c) (.bool p);rw [<-hW];have c0:=hb.cell 0 _ rfl;have c1:=hb.cell 1 _ rfl;have k0:=hr.cell 0 _ rfl;have k1:=hr.cell 1 _ rfl;have k2:=hr.cell 2 _ rfl;have g0:=hr.free 0;have g1:=hr.free 1;have g2:=hr.free 2;have hlt:=hr.lt;have hbl:=fun x y z=>hl.trans ((fd W (w.heap.size+1) x y z).below (B':=w.heap.size) hl.size (by omega))
 have Ca:=ab hbl;clear hb hr hl hW hbl;go_wp2;exact bodyPost_ret (v:=.agg #[.int .i64 r,.int .i64 (c+2),.bool false]) (by simp [results,Tryz.results116,go_sem,k0,k1,k2] <;> omega) rfl ⟨rfl,Ca.out _ _ _⟩
theorem xQ(r c:Int)(p:Bool)(a:Int)(au:Bool)(w:World)(hc : -9223372036854775808<=c)(h2:¬ c<ay a - 2):Calls Tryz.prog 116 #[.agg #[.int .i64 r,.int .i64 c,.bool p],.int .i64 2,.int .i64 a,.bool au] w (Gives w (.agg #[.int .i64 r,.int .i64 (ay a - 1),.bool au])):=by
 have ka:=bH a
 go_enter Tryz.func116,Tryz.ntmps116
 go_wp2_with fail
 refine (cz a _).mono ?_;rintro e w' ⟨rfl,rfl⟩;obtain ⟨W,hW,hb,hr,hl⟩:=ek w (Value.int .i64 r) (.int .i64 c) (.bool p);rw [<-hW];have c0:=hb.cell 0 _ rfl;have c1:=hb.cell 1 _ rfl;have k0:=hr.cell 0 _ rfl;have k1:=hr.cell 1 _ rfl;have k2:=hr.cell 2 _ rfl;have g0:=hr.free 0;have g1:=hr.free 1;have g2:=hr.free 2;have hlt:=hr.lt;have hbl:=fun x y z=>hl.trans ((fd W (w.heap.size+1) x y z).below (B':=w.heap.size) hl.size (by omega))
 have Ca:=ab hbl;clear hb hr hl hW hbl;go_wp2;exact bodyPost_ret (v:=.agg #[.int .i64 r,.int .i64 (ay a - 1),.bool au]) (by simp [results,Tryz.results116,go_sem,k0,k1,k2] <;> omega) rfl ⟨rfl,Ca.out _ _ _⟩
theorem xR(r c:Int)(p:Bool)(n:Int)(hn:2<n)(a:Int)(au:Bool)(w:World)(hc : -9223372036854775808<=c)(h2:c<ay a - 2):Calls Tryz.prog 116 #[.agg #[.int .i64 r,.int .i64 c,.bool p],.int .i64 n,.int .i64 a,.bool au] w (Gives w (.agg #[.int .i64 r,.int .i64 (c+2),.bool false])):=by
 have ka:=bH a
 go_enter Tryz.func116,Tryz.ntmps116
 go_wp2_with fail
 refine (cz a _).mono ?_;rintro e w' ⟨rfl,rfl⟩;obtain ⟨W,hW,hb,hr,hl⟩:=ek w (Value.int .i64 r) (.int .i64 c) (.bool p);rw [<-hW];have c0:=hb.cell 0 _ rfl;have c1:=hb.cell 1 _ rfl;have k0:=hr.cell 0 _ rfl;have k1:=hr.cell 1 _ rfl;have k2:=hr.cell 2 _ rfl;have g0:=hr.free 0;have g1:=hr.free 1;have g2:=hr.free 2;have hlt:=hr.lt;have hbl:=fun x y z=>hl.trans ((fd W (w.heap.size+1) x y z).below (B':=w.heap.size) hl.size (by omega))
 have Ca:=ab hbl;clear hb hr hl hW hbl;go_wp2;exact bodyPost_ret (v:=.agg #[.int .i64 r,.int .i64 (c+2),.bool false]) (by simp [results,Tryz.results116,go_sem,k0,k1,k2] <;> omega) rfl ⟨rfl,Ca.out _ _ _⟩
theorem xS(r c:Int)(p:Bool)(n:Int)(hn:2<n)(a:Int)(au:Bool)(w:World)(hc : -9223372036854775808<=c)(h2:¬ c<ay a - 2):Calls Tryz.prog 116 #[.agg #[.int .i64 r,.int .i64 c,.bool p],.int .i64 n,.int .i64 a,.bool au] w (Gives w (.agg #[.int .i64 r,.int .i64 (ay a - 1),.bool au])):=by
 have ka:=bH a
 go_enter Tryz.func116,Tryz.ntmps116
 go_wp2_with fail
 refine (cz a _).mono ?_;rintro e w' ⟨rfl,rfl⟩;obtain ⟨W,hW,hb,hr,hl⟩:=ek w (Value.int .i64 r) (.int .i64 c) (.bool p);rw [<-hW];have c0:=hb.cell 0 _ rfl;have c1:=hb.cell 1 _ rfl;have k0:=hr.cell 0 _ rfl;have k1:=hr.cell 1 _ rfl;have k2:=hr.cell 2 _ rfl;have g0:=hr.free 0;have g1:=hr.free 1;have g2:=hr.free 2;have hlt:=hr.lt;have hbl:=fun x y z=>hl.trans ((fd W (w.heap.size+1) x y z).below (B':=w.heap.size) hl.size (by omega))
 have Ca:=ab hbl;clear hb hr hl hW hbl;go_wp2;exact bodyPost_ret (v:=.agg #[.int .i64 r,.int .i64 (ay a - 1),.bool au]) (by simp [results,Tryz.results116,go_sem,k0,k1,k2] <;> omega) rfl ⟨rfl,Ca.out _ _ _⟩
theorem r5(r c:Int)(p:Bool)(n a:Int)(au:Bool)(w:World)(hc : -9223372036854775808<=c):Calls Tryz.prog 116 #[.agg #[.int .i64 r,.int .i64 c,.bool p],.int .i64 n,.int .i64 a,.bool au] w (Gives w (.agg #[.int .i64 r,.int .i64 (eE c n a),.bool (eF c n a au)])):=by
 unfold eE eF qk
 rcases (by omega:n<1\/n=1\/n=2\/2<n) with h | rfl | rfl | h
 ·rw [if_neg (show ¬ 1<n by omega)]
  by_cases h2:c<ay a - 1
  ·rw [if_pos h2,if_pos h2];exact xL r c p n h a au w hc h2
  ·rw [if_neg h2,if_neg h2];exact xM r c p n h a au w hc h2
 ·rw [if_neg (show ¬ (1:Int)<1 by omega)]
  by_cases h2:c<ay a - 1
  ·rw [if_pos h2,if_pos h2];exact xN r c p a au w hc h2
  ·rw [if_neg h2,if_neg h2];exact xO r c p a au w hc h2
 ·rw [if_pos (show (1:Int)<2 by omega)]
  by_cases h2:c<ay a - 2
  ·rw [if_pos h2,if_pos h2];exact xP r c p a au w hc h2
  ·rw [if_neg h2,if_neg h2];exact xQ r c p a au w hc h2
 ·rw [if_pos (show 1<n by omega)]
  by_cases h2:c<ay a - 2
  ·rw [if_pos h2,if_pos h2];exact xR r c p n h a au w hc h2
  ·rw [if_neg h2,if_neg h2];exact xS r c p n h a au w hc h2
theorem xU(r c:Int)(p:Bool)(n:Int)(hn:n<1)(a:Int)(au:Bool)(w:World)(hc : -9223372036854775808<=c)(h2:c<ay a - 1):Calls Tryz.prog 145 #[.agg #[.int .i64 r,.int .i64 c,.bool p],.int .i64 n,.int .i64 a,.bool au] w (Gives w (.agg #[.int .i64 r,.int .i64 (c+1),.bool false])):=by
 have ka:=bH a
 go_enter Tryz.func145,Tryz.ntmps145
 go_wp2_with fail
 obtain ⟨W,hW,hb,hr,hl⟩:=ek w (Value.int .i64 r) (.int .i64 c) (.bool p);rw [<-hW];have HB:=ab hb;have HR:=ab hr;have HL:=ab hl;have e1:=aj (hb.cell 1 _ rfl);clear hb hr hl hW;refine aJ (by kernel_rfl) (by kernel_rfl) ?_
 repeat (go_big_quiet_step ((go_at_call 163;exact aG (bE _ _))))
 refine wpQuiet_nil ?_;intro _ hw';obtain ⟨u,hw''⟩:=hw';subst hw'';obtain ⟨W2,hW2⟩:=ae (ext W u);rw [<-hW2];have hb2:Has W2 w.heap.size [Value.int .i64 r,.int .i64 c,.bool p] 24:=by rw [hW2];exact HB.out.below u.ok HB.out.lt
 have hr2:Has W2 (w.heap.size+1) [Value.int .i64 0,.int .i64 0,.bool false] 24:=by rw [hW2];exact HR.out.below u.ok HR.out.lt
 have hl2:Below w.heap.size w W2:=by rw [hW2];exact aU HL.out u
 clear hW2 HB HR HL e1;have c0:=hb2.cell 0 _ rfl;have c1:=hb2.cell 1 _ rfl;have k0:=hr2.cell 0 _ rfl;have k1:=hr2.cell 1 _ rfl;have k2:=hr2.cell 2 _ rfl;have g0:=hr2.free 0;have g1:=hr2.free 1;have g2:=hr2.free 2;have hlt:=hr2.lt;have hbl:=fun x y z=>hl2.trans ((fd W2 (w.heap.size+1) x y z).below (B':=w.heap.size) hl2.size (by omega))
 have Ca:=ab hbl;clear hb2 hr2 hl2 hbl;go_wp2;exact bodyPost_ret (v:=.agg #[.int .i64 r,.int .i64 (c+1),.bool false]) (by simp [results,Tryz.results145,go_sem,k0,k1,k2] <;> omega) rfl ⟨rfl,Ca.out _ _ _⟩
theorem xV(r c:Int)(p:Bool)(n:Int)(hn:n<1)(a:Int)(au:Bool)(w:World)(hc : -9223372036854775808<=c)(h2:¬ c<ay a - 1):Calls Tryz.prog 145 #[.agg #[.int .i64 r,.int .i64 c,.bool p],.int .i64 n,.int .i64 a,.bool au] w (Gives w (.agg #[.int .i64 r,.int .i64 (ay a - 1),.bool au])):=by
 have ka:=bH a
 go_enter Tryz.func145,Tryz.ntmps145
 go_wp2_with fail
 obtain ⟨W,hW,hb,hr,hl⟩:=ek w (Value.int .i64 r) (.int .i64 c) (.bool p);rw [<-hW];have HB:=ab hb;have HR:=ab hr;have HL:=ab hl;have e1:=aj (hb.cell 1 _ rfl);clear hb hr hl hW;refine aJ (by kernel_rfl) (by kernel_rfl) ?_
 repeat (go_big_quiet_step ((go_at_call 163;exact aG (bE _ _))))
 refine wpQuiet_nil ?_;intro _ hw';obtain ⟨u,hw''⟩:=hw';subst hw'';obtain ⟨W2,hW2⟩:=ae (ext W u);rw [<-hW2];have hb2:Has W2 w.heap.size [Value.int .i64 r,.int .i64 c,.bool p] 24:=by rw [hW2];exact HB.out.below u.ok HB.out.lt
 have hr2:Has W2 (w.heap.size+1) [Value.int .i64 0,.int .i64 0,.bool false] 24:=by rw [hW2];exact HR.out.below u.ok HR.out.lt
 have hl2:Below w.heap.size w W2:=by rw [hW2];exact aU HL.out u
 clear hW2 HB HR HL e1;have c0:=hb2.cell 0 _ rfl;have c1:=hb2.cell 1 _ rfl;have k0:=hr2.cell 0 _ rfl;have k1:=hr2.cell 1 _ rfl;have k2:=hr2.cell 2 _ rfl;have g0:=hr2.free 0;have g1:=hr2.free 1;have g2:=hr2.free 2;have hlt:=hr2.lt;have e0:=aj c0;have l0:=aj k0;have l1:=aj k1;have l2:=aj k2;have f0:=aD (by simpa using hlt) g0;have f1:=aD (by simpa using hlt) g1;have f2:=aD (by simpa using hlt) g2;have C4:=fun (u:Growth W2) x y z=>cU hl2 u x y z (w.heap.size+1) (by omega)
 have Dj:=ab C4;clear hb2 hr2 hl2 C4
 go_wp2_with fail
 clear c0 c1 k0 k1 k2 g0 g1 g2;refine aC 7 (by kernel_rfl) (by simp) (by kernel_rfl) (by kernel_rfl) (by kernel_rfl) (by kernel_rfl) (by kernel_rfl) ?_;simp only [List.take_succ_cons,List.take_zero,List.drop_succ_cons,List.drop_zero]
 repeat (go_big_quiet_step ((go_at_call 163;exact aG (bE _ _))))
 refine wpQuiet_nil ?_;intro _ hw';obtain ⟨u,hw''⟩:=hw';subst hw'';go_wp2;exact bodyPost_ret (v:=.agg #[.int .i64 r,.int .i64 (ay a - 1),.bool au]) (by simp [results,Tryz.results145,go_sem,l0,l1,l2]) rfl ⟨rfl,Dj.out _ _ _ _⟩
theorem xW(r c:Int)(p:Bool)(a:Int)(au:Bool)(w:World)(hc : -9223372036854775808<=c)(h2:c<ay a - 1):Calls Tryz.prog 145 #[.agg #[.int .i64 r,.int .i64 c,.bool p],.int .i64 1,.int .i64 a,.bool au] w (Gives w (.agg #[.int .i64 r,.int .i64 (c+1),.bool false])):=by
 have ka:=bH a
 go_enter Tryz.func145,Tryz.ntmps145
 go_wp2_with fail
 obtain ⟨W,hW,hb,hr,hl⟩:=ek w (Value.int .i64 r) (.int .i64 c) (.bool p);rw [<-hW];have HB:=ab hb;have HR:=ab hr;have HL:=ab hl;have e1:=aj (hb.cell 1 _ rfl);clear hb hr hl hW;refine aJ (by kernel_rfl) (by kernel_rfl) ?_
 repeat (go_big_quiet_step ((go_at_call 163;exact aG (bE _ _))))
 refine wpQuiet_nil ?_;intro _ hw';obtain ⟨u,hw''⟩:=hw';subst hw'';obtain ⟨W2,hW2⟩:=ae (ext W u);rw [<-hW2];have hb2:Has W2 w.heap.size [Value.int .i64 r,.int .i64 c,.bool p] 24:=by rw [hW2];exact HB.out.below u.ok HB.out.lt
 have hr2:Has W2 (w.heap.size+1) [Value.int .i64 0,.int .i64 0,.bool false] 24:=by rw [hW2];exact HR.out.below u.ok HR.out.lt
 have hl2:Below w.heap.size w W2:=by rw [hW2];exact aU HL.out u
 clear hW2 HB HR HL e1;have c0:=hb2.cell 0 _ rfl;have c1:=hb2.cell 1 _ rfl;have k0:=hr2.cell 0 _ rfl;have k1:=hr2.cell 1 _ rfl;have k2:=hr2.cell 2 _ rfl;have g0:=hr2.free 0;have g1:=hr2.free 1;have g2:=hr2.free 2;have hlt:=hr2.lt;have hbl:=fun x y z=>hl2.trans ((fd W2 (w.heap.size+1) x y z).below (B':=w.heap.size) hl2.size (by omega))
 have Ca:=ab hbl;clear hb2 hr2 hl2 hbl;go_wp2;exact bodyPost_ret (v:=.agg #[.int .i64 r,.int .i64 (c+1),.bool false]) (by simp [results,Tryz.results145,go_sem,k0,k1,k2] <;> omega) rfl ⟨rfl,Ca.out _ _ _⟩
theorem xX(r c:Int)(p:Bool)(a:Int)(au:Bool)(w:World)(hc : -9223372036854775808<=c)(h2:¬ c<ay a - 1):Calls Tryz.prog 145 #[.agg #[.int .i64 r,.int .i64 c,.bool p],.int .i64 1,.int .i64 a,.bool au] w (Gives w (.agg #[.int .i64 r,.int .i64 (ay a - 1),.bool au])):=by
 have ka:=bH a
 go_enter Tryz.func145,Tryz.ntmps145
 go_wp2_with fail
 obtain ⟨W,hW,hb,hr,hl⟩:=ek w (Value.int .i64 r) (.int .i64 c) (.bool p);rw [<-hW];have HB:=ab hb;have HR:=ab hr;have HL:=ab hl;have e1:=aj (hb.cell 1 _ rfl);clear hb hr hl hW;refine aJ (by kernel_rfl) (by kernel_rfl) ?_
 repeat (go_big_quiet_step ((go_at_call 163;exact aG (bE _ _))))
 refine wpQuiet_nil ?_;intro _ hw';obtain ⟨u,hw''⟩:=hw';subst hw'';obtain ⟨W2,hW2⟩:=ae (ext W u);rw [<-hW2];have hb2:Has W2 w.heap.size [Value.int .i64 r,.int .i64 c,.bool p] 24:=by rw [hW2];exact HB.out.below u.ok HB.out.lt
 have hr2:Has W2 (w.heap.size+1) [Value.int .i64 0,.int .i64 0,.bool false] 24:=by rw [hW2];exact HR.out.below u.ok HR.out.lt
 have hl2:Below w.heap.size w W2:=by rw [hW2];exact aU HL.out u
 clear hW2 HB HR HL e1;have c0:=hb2.cell 0 _ rfl;have c1:=hb2.cell 1 _ rfl;have k0:=hr2.cell 0 _ rfl;have k1:=hr2.cell 1 _ rfl;have k2:=hr2.cell 2 _ rfl;have g0:=hr2.free 0;have g1:=hr2.free 1;have g2:=hr2.free 2;have hlt:=hr2.lt;have e0:=aj c0;have l0:=aj k0;have l1:=aj k1;have l2:=aj k2;have f0:=aD (by simpa using hlt) g0;have f1:=aD (by simpa using hlt) g1;have f2:=aD (by simpa using hlt) g2;have C4:=fun (u:Growth W2) x y z=>cU hl2 u x y z (w.heap.size+1) (by omega)
 have Dj:=ab C4;clear hb2 hr2 hl2 C4
 go_wp2_with fail
 clear c0 c1 k0 k1 k2 g0 g1 g2;refine aC 7 (by kernel_rfl) (by simp) (by kernel_rfl) (by kernel_rfl) (by kernel_rfl) (by kernel_rfl) (by kernel_rfl) ?_;simp only [List.take_succ_cons,List.take_zero,List.drop_succ_cons,List.drop_zero]
 repeat (go_big_quiet_step ((go_at_call 163;exact aG (bE _ _))))
 refine wpQuiet_nil ?_;intro _ hw';obtain ⟨u,hw''⟩:=hw';subst hw'';go_wp2;exact bodyPost_ret (v:=.agg #[.int .i64 r,.int .i64 (ay a - 1),.bool au]) (by simp [results,Tryz.results145,go_sem,l0,l1,l2]) rfl ⟨rfl,Dj.out _ _ _ _⟩
theorem xY(r c:Int)(p:Bool)(a:Int)(au:Bool)(w:World)(hc : -9223372036854775808<=c)(h2:c<ay a - 2):Calls Tryz.prog 145 #[.agg #[.int .i64 r,.int .i64 c,.bool p],.int .i64 2,.int .i64 a,.bool au] w (Gives w (.agg #[.int .i64 r,.int .i64 (c+2),.bool false])):=by
 have ka:=bH a
 go_enter Tryz.func145,Tryz.ntmps145
 go_wp2_with fail
 obtain ⟨W,hW,hb,hr,hl⟩:=ek w (Value.int .i64 r) (.int .i64 c) (.bool p);rw [<-hW];have HB:=ab hb;have HR:=ab hr;have HL:=ab hl;have e1:=aj (hb.cell 1 _ rfl);clear hb hr hl hW;refine aJ (by kernel_rfl) (by kernel_rfl) ?_
 repeat (go_big_quiet_step ((go_at_call 163;exact aG (bE _ _))))
 refine wpQuiet_nil ?_;intro _ hw';obtain ⟨u,hw''⟩:=hw';subst hw'';obtain ⟨W2,hW2⟩:=ae (ext W u);rw [<-hW2];have hb2:Has W2 w.heap.size [Value.int .i64 r,.int .i64 c,.bool p] 24:=by rw [hW2];exact HB.out.below u.ok HB.out.lt
 have hr2:Has W2 (w.heap.size+1) [Value.int .i64 0,.int .i64 0,.bool false] 24:=by rw [hW2];exact HR.out.below u.ok HR.out.lt
 have hl2:Below w.heap.size w W2:=by rw [hW2];exact aU HL.out u
 clear hW2 HB HR HL e1;have c0:=hb2.cell 0 _ rfl;have c1:=hb2.cell 1 _ rfl;have k0:=hr2.cell 0 _ rfl;have k1:=hr2.cell 1 _ rfl;have k2:=hr2.cell 2 _ rfl;have g0:=hr2.free 0;have g1:=hr2.free 1;have g2:=hr2.free 2;have hlt:=hr2.lt;have hbl:=fun x y z=>hl2.trans ((fd W2 (w.heap.size+1) x y z).below (B':=w.heap.size) hl2.size (by omega))
 have Ca:=ab hbl;clear hb2 hr2 hl2 hbl;go_wp2;exact bodyPost_ret (v:=.agg #[.int .i64 r,.int .i64 (c+2),.bool false]) (by simp [results,Tryz.results145,go_sem,k0,k1,k2] <;> omega) rfl ⟨rfl,Ca.out _ _ _⟩
theorem xZ(r c:Int)(p:Bool)(a:Int)(au:Bool)(w:World)(hc : -9223372036854775808<=c)(h2:¬ c<ay a - 2):Calls Tryz.prog 145 #[.agg #[.int .i64 r,.int .i64 c,.bool p],.int .i64 2,.int .i64 a,.bool au] w (Gives w (.agg #[.int .i64 r,.int .i64 (ay a - 1),.bool au])):=by
 have ka:=bH a
 go_enter Tryz.func145,Tryz.ntmps145
 go_wp2_with fail
 obtain ⟨W,hW,hb,hr,hl⟩:=ek w (Value.int .i64 r) (.int .i64 c) (.bool p);rw [<-hW];have HB:=ab hb;have HR:=ab hr;have HL:=ab hl;have e1:=aj (hb.cell 1 _ rfl);clear hb hr hl hW;refine aJ (by kernel_rfl) (by kernel_rfl) ?_
 repeat (go_big_quiet_step ((go_at_call 163;exact aG (bE _ _))))
 refine wpQuiet_nil ?_;intro _ hw';obtain ⟨u,hw''⟩:=hw';subst hw'';obtain ⟨W2,hW2⟩:=ae (ext W u);rw [<-hW2];have hb2:Has W2 w.heap.size [Value.int .i64 r,.int .i64 c,.bool p] 24:=by rw [hW2];exact HB.out.below u.ok HB.out.lt
 have hr2:Has W2 (w.heap.size+1) [Value.int .i64 0,.int .i64 0,.bool false] 24:=by rw [hW2];exact HR.out.below u.ok HR.out.lt
 have hl2:Below w.heap.size w W2:=by rw [hW2];exact aU HL.out u
 clear hW2 HB HR HL e1;have c0:=hb2.cell 0 _ rfl;have c1:=hb2.cell 1 _ rfl;have k0:=hr2.cell 0 _ rfl;have k1:=hr2.cell 1 _ rfl;have k2:=hr2.cell 2 _ rfl;have g0:=hr2.free 0;have g1:=hr2.free 1;have g2:=hr2.free 2;have hlt:=hr2.lt;have e0:=aj c0;have l0:=aj k0;have l1:=aj k1;have l2:=aj k2;have f0:=aD (by simpa using hlt) g0;have f1:=aD (by simpa using hlt) g1;have f2:=aD (by simpa using hlt) g2;have C4:=fun (u:Growth W2) x y z=>cU hl2 u x y z (w.heap.size+1) (by omega)
 have Dj:=ab C4;clear hb2 hr2 hl2 C4
 go_wp2_with fail
 clear c0 c1 k0 k1 k2 g0 g1 g2;refine aC 7 (by kernel_rfl) (by simp) (by kernel_rfl) (by kernel_rfl) (by kernel_rfl) (by kernel_rfl) (by kernel_rfl) ?_;simp only [List.take_succ_cons,List.take_zero,List.drop_succ_cons,List.drop_zero]
 repeat (go_big_quiet_step ((go_at_call 163;exact aG (bE _ _))))
 refine wpQuiet_nil ?_;intro _ hw';obtain ⟨u,hw''⟩:=hw';subst hw'';go_wp2;exact bodyPost_ret (v:=.agg #[.int .i64 r,.int .i64 (ay a - 1),.bool au]) (by simp [results,Tryz.results145,go_sem,l0,l1,l2]) rfl ⟨rfl,Dj.out _ _ _ _⟩
theorem x8(r c:Int)(p:Bool)(n:Int)(hn:2<n)(a:Int)(au:Bool)(w:World)(hc : -9223372036854775808<=c)(h2:c<ay a - 2):Calls Tryz.prog 145 #[.agg #[.int .i64 r,.int .i64 c,.bool p],.int .i64 n,.int .i64 a,.bool au] w (Gives w (.agg #[.int .i64 r,.int .i64 (c+2),.bool false])):=by
 have ka:=bH a
 go_enter Tryz.func145,Tryz.ntmps145
 go_wp2_with fail
 obtain ⟨W,hW,hb,hr,hl⟩:=ek w (Value.int .i64 r) (.int .i64 c) (.bool p);rw [<-hW];have HB:=ab hb;have HR:=ab hr;have HL:=ab hl;have e1:=aj (hb.cell 1 _ rfl);clear hb hr hl hW;refine aJ (by kernel_rfl) (by kernel_rfl) ?_
 repeat (go_big_quiet_step ((go_at_call 163;exact aG (bE _ _))))
 refine wpQuiet_nil ?_;intro _ hw';obtain ⟨u,hw''⟩:=hw';subst hw'';obtain ⟨W2,hW2⟩:=ae (ext W u);rw [<-hW2];have hb2:Has W2 w.heap.size [Value.int .i64 r,.int .i64 c,.bool p] 24:=by rw [hW2];exact HB.out.below u.ok HB.out.lt
 have hr2:Has W2 (w.heap.size+1) [Value.int .i64 0,.int .i64 0,.bool false] 24:=by rw [hW2];exact HR.out.below u.ok HR.out.lt
 have hl2:Below w.heap.size w W2:=by rw [hW2];exact aU HL.out u
 clear hW2 HB HR HL e1;have c0:=hb2.cell 0 _ rfl;have c1:=hb2.cell 1 _ rfl;have k0:=hr2.cell 0 _ rfl;have k1:=hr2.cell 1 _ rfl;have k2:=hr2.cell 2 _ rfl;have g0:=hr2.free 0;have g1:=hr2.free 1;have g2:=hr2.free 2;have hlt:=hr2.lt;have hbl:=fun x y z=>hl2.trans ((fd W2 (w.heap.size+1) x y z).below (B':=w.heap.size) hl2.size (by omega))
 have Ca:=ab hbl;clear hb2 hr2 hl2 hbl;go_wp2;exact bodyPost_ret (v:=.agg #[.int .i64 r,.int .i64 (c+2),.bool false]) (by simp [results,Tryz.results145,go_sem,k0,k1,k2] <;> omega) rfl ⟨rfl,Ca.out _ _ _⟩
theorem x9(r c:Int)(p:Bool)(n:Int)(hn:2<n)(a:Int)(au:Bool)(w:World)(hc : -9223372036854775808<=c)(h2:¬ c<ay a - 2):Calls Tryz.prog 145 #[.agg #[.int .i64 r,.int .i64 c,.bool p],.int .i64 n,.int .i64 a,.bool au] w (Gives w (.agg #[.int .i64 r,.int .i64 (ay a - 1),.bool au])):=by
 have ka:=bH a
 go_enter Tryz.func145,Tryz.ntmps145
 go_wp2_with fail
 obtain ⟨W,hW,hb,hr,hl⟩:=ek w (Value.int .i64 r) (.int .i64 c) (.bool p);rw [<-hW];have HB:=ab hb;have HR:=ab hr;have HL:=ab hl;have e1:=aj (hb.cell 1 _ rfl);clear hb hr hl hW;refine aJ (by kernel_rfl) (by kernel_rfl) ?_
 repeat (go_big_quiet_step ((go_at_call 163;exact aG (bE _ _))))
 refine wpQuiet_nil ?_;intro _ hw';obtain ⟨u,hw''⟩:=hw';subst hw'';obtain ⟨W2,hW2⟩:=ae (ext W u);rw [<-hW2];have hb2:Has W2 w.heap.size [Value.int .i64 r,.int .i64 c,.bool p] 24:=by rw [hW2];exact HB.out.below u.ok HB.out.lt
 have hr2:Has W2 (w.heap.size+1) [Value.int .i64 0,.int .i64 0,.bool false] 24:=by rw [hW2];exact HR.out.below u.ok HR.out.lt
 have hl2:Below w.heap.size w W2:=by rw [hW2];exact aU HL.out u
 clear hW2 HB HR HL e1;have c0:=hb2.cell 0 _ rfl;have c1:=hb2.cell 1 _ rfl;have k0:=hr2.cell 0 _ rfl;have k1:=hr2.cell 1 _ rfl;have k2:=hr2.cell 2 _ rfl;have g0:=hr2.free 0;have g1:=hr2.free 1;have g2:=hr2.free 2;have hlt:=hr2.lt;have e0:=aj c0;have l0:=aj k0;have l1:=aj k1;have l2:=aj k2;have f0:=aD (by simpa using hlt) g0;have f1:=aD (by simpa using hlt) g1;have f2:=aD (by simpa using hlt) g2;have C4:=fun (u:Growth W2) x y z=>cU hl2 u x y z (w.heap.size+1) (by omega)
 have Dj:=ab C4;clear hb2 hr2 hl2 C4
 go_wp2_with fail
 clear c0 c1 k0 k1 k2 g0 g1 g2;refine aC 7 (by kernel_rfl) (by simp) (by kernel_rfl) (by kernel_rfl) (by kernel_rfl) (by kernel_rfl) (by kernel_rfl) ?_;simp only [List.take_succ_cons,List.take_zero,List.drop_succ_cons,List.drop_zero]
 repeat (go_big_quiet_step ((go_at_call 163;exact aG (bE _ _))))
 refine wpQuiet_nil ?_;intro _ hw';obtain ⟨u,hw''⟩:=hw';subst hw'';go_wp2;exact bodyPost_ret (v:=.agg #[.int .i64 r,.int .i64 (ay a - 1),.bool au]) (by simp [results,Tryz.results145,go_sem,l0,l1,l2]) rfl ⟨rfl,Dj.out _ _ _ _⟩
theorem r6(r c:Int)(p:Bool)(n a:Int)(au:Bool)(w:World)(hc : -9223372036854775808<=c):Calls Tryz.prog 145 #[.agg #[.int .i64 r,.int .i64 c,.bool p],.int .i64 n,.int .i64 a,.bool au] w (Gives w (.agg #[.int .i64 r,.int .i64 (eE c n a),.bool (eF c n a au)])):=by
 unfold eE eF qk
 rcases (by omega:n<1\/n=1\/n=2\/2<n) with h | rfl | rfl | h
 ·rw [if_neg (show ¬ 1<n by omega)]
  by_cases h2:c<ay a - 1
  ·rw [if_pos h2,if_pos h2];exact xU r c p n h a au w hc h2
  ·rw [if_neg h2,if_neg h2];exact xV r c p n h a au w hc h2
 ·rw [if_neg (show ¬ (1:Int)<1 by omega)]
  by_cases h2:c<ay a - 1
  ·rw [if_pos h2,if_pos h2];exact xW r c p a au w hc h2
  ·rw [if_neg h2,if_neg h2];exact xX r c p a au w hc h2
 ·rw [if_pos (show (1:Int)<2 by omega)]
  by_cases h2:c<ay a - 2
  ·rw [if_pos h2,if_pos h2];exact xY r c p a au w hc h2
  ·rw [if_neg h2,if_neg h2];exact xZ r c p a au w hc h2
 ·rw [if_pos (show 1<n by omega)]
  by_cases h2:c<ay a - 2
  ·rw [if_pos h2,if_pos h2];exact x8 r c p n h a au w hc h2
  ·rw [if_neg h2,if_neg h2];exact x9 r c p n h a au w hc h2
end Go.Proofs.YtoeggiplcaegoaaGreatDoor
