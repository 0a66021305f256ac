import Derived.Test.YtoeggiplcaegoaaGreatDoorZ0
import Derived.Test.YtoeggiplcaegoaaGreatDoorMg1
import Derived.Laws.StructEq
set_option maxRecDepth 100000
set_option linter.unusedVariables false
set_option linter.unusedSimpArgs false
set_option maxHeartbeats 2000000
namespace Go.Proofs.YtoeggiplcaegoaaGreatDoor
open Go.RowKit Go.ChangeShapes Go.WideShapes
theorem cz(n:Int)(w:World):Calls Tryz.prog 180 #[.int .i64 n] w fun e w'=>e=.returned (.int .i64 (ay n))/\w=w':=by
 rcases kI n with ⟨h2,hs⟩ | ⟨h2,h3,hs⟩ | ⟨h2,hs⟩
 all_goals
  rw [hs];clear hs
  go_enter Tryz.func180,Tryz.ntmps180
  go_wp2;go_ret;exact ⟨af,rfl⟩
def inI(n m:Int):Int:=if n<0 then 0 else if m<=n then m - 1 else n
theorem gE(n m:Int)(w:World)(hm:1<=m)(F5:m<=1024):Calls Tryz.prog 222 #[.int .i64 n,.int .i64 m] w fun e w'=>e=.returned (.int .i64 (inI n m))/\w=w':=by
 have hv:(n<0/\inI n m=0)\/(0<=n/\m<=n/\inI n m=m - 1)\/(0<=n/\n<m/\inI n m=n):=by unfold inI;omega
 rcases hv with ⟨h1,hs⟩ | ⟨h1,h2,hs⟩ | ⟨h1,h2,hs⟩
 all_goals
  rw [hs];clear hs
  go_enter Tryz.func222,Tryz.ntmps222
  go_wp2;go_ret;exact ⟨af,rfl⟩
def cI(c:Int)(p:Bool)(w:Int):Bool:=p && (c == ay w - 1)
theorem ek(w:World)(a0 a1 a2:Value):∃ W,W=(w.alloc (.cells #[a0,a1,a2] 24)).alloc (.cells #[Value.int .i64 0,.int .i64 0,.bool false] 24) /\
  Has W w.heap.size [a0,a1,a2] 24/\Has W (w.heap.size+1) [Value.int .i64 0,.int .i64 0,.bool false] 24/\Below w.heap.size w W:=by
 refine ⟨_,rfl,(Has.new w _ _).alloc _,?_,(AU _ _).alloc (by simp) _⟩;have:=Has.new (w.alloc (.cells #[a0,a1,a2] 24)) [Value.int .i64 0,.int .i64 0,.bool false] 24
 simpa using this
theorem cU{w W:World}(hl:Below w.heap.size w W)(u:Growth W)(x y z:Value)(g:Nat)(hg:w.heap.size<=g) :
  Below w.heap.size w ((((ext W u).setCell ⟨g,0,none⟩ x).setCell ⟨g,1,none⟩ y).setCell ⟨g,2,none⟩ z) :=
 hl.trans ((fd (ext W u) g x y z |>.mono (B':=w.heap.size) (by have:=u.ok.size;have:=hl.size;show _<=u.tz9.heap.size;omega) |>.below (Nat.le_refl _) hg) |> (u.ok.mono hl.size).trans)
theorem ns(r c:Int)(p:Bool)(a b:Int)(w:World):Calls Tryz.prog 108 #[.agg #[.int .i64 r,.int .i64 c,.bool p],.int .i64 a,.int .i64 b] w (Gives w (.agg #[.int .i64 (inI r (ay b)),.int .i64 (inI c (ay a)),.bool (cI c p a)])):=by
 have ka:=bH a;have kb:=bH b
 go_enter Tryz.func108,Tryz.ntmps108
 go_wp2_with fail
 refine (cz a _).mono ?_;rintro e w' ⟨rfl,rfl⟩
 go_wp2_with fail
 obtain ⟨W,hW,hb,hr,hl⟩:=ek w (Value.int .i64 r) (.int .i64 c) (.bool p);rw [<-hW];have HL:=ab hl;have e0:=aj (hb.cell 0 _ rfl);have e1:=aj (hb.cell 1 _ rfl);have e2:=aj (hb.cell 2 _ rfl);have hlt:=hr.lt;have g0:=aD (by simpa using hlt) (hr.free 0);have g1:=aD (by simpa using hlt) (hr.free 1);have g2:=aD (by simpa using hlt) (hr.free 2);have k0:=aj (hr.cell 0 _ rfl);have k1:=aj (hr.cell 1 _ rfl);have k2:=aj (hr.cell 2 _ rfl);generalize hg:w.heap.size=g at *;have HG:=ab hg;clear hb hr hl hW hg
 cases p with
 |true =>
  refine aC 21 (by kernel_rfl) (by simp) (by kernel_rfl) (by kernel_rfl) (by kernel_rfl) (by kernel_rfl) (by kernel_rfl) ?_;simp only [List.take_succ_cons,List.take_zero,List.drop_succ_cons,List.drop_zero]
  repeat (go_big_quiet_step ((go_at_call 180;exact aG (cz _ _))))
  refine wpQuiet_nil ?_;intro _ hw';obtain ⟨u,hw''⟩:=hw';subst hw'';go_wp2
  all_goals
   have hbl:=fun x y z=>cU (w:=w) (by rw [HG.out];exact HL.out) u x y z (g+1) (by have:=HG.out;omega)
   refine bodyPost_ret (v:=.agg #[.int .i64 (inI r (ay b)),.int .i64 (inI c (ay a)),.bool (cI c true a)]) (by simp [results,Tryz.results108,go_sem,cI,k0,k1,k2];try unfold inI;try omega) rfl ⟨rfl,hbl _ _ _⟩
 |false =>
  refine aC 21 (by kernel_rfl) (by simp) (by kernel_rfl) (by kernel_rfl) (by kernel_rfl) (by kernel_rfl) (by kernel_rfl) ?_;simp only [List.take_succ_cons,List.take_zero,List.drop_succ_cons,List.drop_zero]
  repeat (go_big_quiet_step ((go_at_call 180;exact aG (cz _ _))))
  refine wpQuiet_nil ?_;intro _ hw';obtain ⟨u,hw''⟩:=hw';subst hw'';go_wp2
  all_goals
   have hbl:=fun x y z=>cU (w:=w) (by rw [HG.out];exact HL.out) u x y z (g+1) (by have:=HG.out;omega)
   refine bodyPost_ret (v:=.agg #[.int .i64 (inI r (ay b)),.int .i64 (inI c (ay a)),.bool (cI c false a)]) (by simp [results,Tryz.results108,go_sem,cI,k0,k1,k2];try unfold inI;try omega) rfl ⟨rfl,hbl _ _ _⟩
theorem uO(r c:Int)(p:Bool)(a b:Int)(w:World):Calls Tryz.prog 165 #[.agg #[.int .i64 r,.int .i64 c,.bool p],.int .i64 a,.int .i64 b] w (Gives w (.agg #[.int .i64 (inI r (ay b)),.int .i64 (inI c (ay a)),.bool (cI c p a)])):=by
 have ka:=bH a;have kb:=bH b
 go_enter Tryz.func165,Tryz.ntmps165
 go_wp2_with fail
 obtain ⟨W,hW,hb,hr,hl⟩:=ek w (Value.int .i64 r) (.int .i64 c) (.bool p);rw [<-hW];have HL:=ab hl;have e0:=aj (hb.cell 0 _ rfl);have e1:=aj (hb.cell 1 _ rfl);have e2:=aj (hb.cell 2 _ rfl);have hlt:=hr.lt;have g0:=aD (by simpa using hlt) (hr.free 0);have g1:=aD (by simpa using hlt) (hr.free 1);have g2:=aD (by simpa using hlt) (hr.free 2);have k0:=aj (hr.cell 0 _ rfl);have k1:=aj (hr.cell 1 _ rfl);have k2:=aj (hr.cell 2 _ rfl);generalize hg:w.heap.size=g at *;have HG:=ab hg;clear hb hr hl hW hg
 cases p with
 |true =>
  refine aC 21 (by kernel_rfl) (by simp) (by kernel_rfl) (by kernel_rfl) (by kernel_rfl) (by kernel_rfl) (by kernel_rfl) ?_;simp only [List.take_succ_cons,List.take_zero,List.drop_succ_cons,List.drop_zero]
  repeat (go_big_quiet_step ((first | (go_at_call 163;exact aG (bE _ _)) | (go_at_call_of 222 (Value.int .i64 r);exact aG (gE r (ay b) _ kb.1 kb.2)) | (go_at_call_of 222 (Value.int .i64 c);exact aG (gE c (ay a) _ ka.1 ka.2)))))
  refine wpQuiet_nil ?_;intro _ hw';obtain ⟨u,hw''⟩:=hw';subst hw'';go_wp2
  all_goals
   have hbl:=fun x y z=>cU (w:=w) (by rw [HG.out];exact HL.out) u x y z (g+1) (by have:=HG.out;omega)
   refine bodyPost_ret (v:=.agg #[.int .i64 (inI r (ay b)),.int .i64 (inI c (ay a)),.bool (cI c true a)]) (by simp [results,Tryz.results165,go_sem,cI,k0,k1,k2];try unfold inI;try omega) rfl ⟨rfl,hbl _ _ _⟩
 |false =>
  refine aC 21 (by kernel_rfl) (by simp) (by kernel_rfl) (by kernel_rfl) (by kernel_rfl) (by kernel_rfl) (by kernel_rfl) ?_;simp only [List.take_succ_cons,List.take_zero,List.drop_succ_cons,List.drop_zero]
  repeat (go_big_quiet_step ((first | (go_at_call 163;exact aG (bE _ _)) | (go_at_call_of 222 (Value.int .i64 r);exact aG (gE r (ay b) _ kb.1 kb.2)) | (go_at_call_of 222 (Value.int .i64 c);exact aG (gE c (ay a) _ ka.1 ka.2)))))
  refine wpQuiet_nil ?_;intro _ hw';obtain ⟨u,hw''⟩:=hw';subst hw'';go_wp2
  all_goals
   have hbl:=fun x y z=>cU (w:=w) (by rw [HG.out];exact HL.out) u x y z (g+1) (by have:=HG.out;omega)
   refine bodyPost_ret (v:=.agg #[.int .i64 (inI r (ay b)),.int .i64 (inI c (ay a)),.bool (cI c false a)]) (by simp [results,Tryz.results165,go_sem,cI,k0,k1,k2];try unfold inI;try omega) rfl ⟨rfl,hbl _ _ _⟩
theorem uP:Tryz.prog.stoodInHeld 24=false:=by kernel_rfl
def ya(r c:Int)(p:Bool)(r' c':Int)(p':Bool):Bool:=r == r' && (c == c' && p == p')
theorem zt(r c:Int)(p:Bool)(r' c':Int)(p':Bool)(w:World):(binOp .eql 24 (.agg #[.int .i64 r,.int .i64 c,.bool p]) (.agg #[.int .i64 r',.int .i64 c',.bool p'])).run Tryz.prog w=.ok (.bool (ya r c p r' c' p')) w:=by
 rw [run_eql_struct,run_equalIn_agg _ _ _ _ _ (by kernel_rfl) uP];simp only [Program.fieldsOf,Tryz.underlying24]
 by_cases h1:r=r' <;> by_cases h2:c=c' <;> simp [Op.eqFields,go_sem,part,h1,h2,ya]
 cases p <;> cases p' <;> rfl
end Go.Proofs.YtoeggiplcaegoaaGreatDoor
