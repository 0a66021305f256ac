import Derived.Test.YtechjomepdahiaaDoorZ0
import Derived.Test.YtechjomepdahiaaDoorWirI
set_option maxRecDepth 100000
set_option linter.unusedVariables false
set_option linter.unusedSimpArgs false
set_option maxHeartbeats 4000000
namespace Go.Proofs.YtechjomepdahiaaDoor
open Go.RowKit Go.ChangeShapes Go.WideShapes
def fZ(wd:Nat):Nat->List Ln->List Int->Bool->List Ln × List Int × Bool
 | 0,A,xs,bad=>(A,xs,bad)
 | k+1,A,xs,bad=>if bad=true then (A,xs,bad) else fZ wd k (A++[((cb wd wd [] (aw xs bad).2.1 (aw xs bad).2.2).1,decide ((aw xs bad).1=1))]) (cb wd wd [] (aw xs bad).2.1 (aw xs bad).2.2).2.1 (cb wd wd [] (aw xs bad).2.1 (aw xs bad).2.2).2.2
def iA(xs:List Int):Nat × Nat × Nat × Nat × Int × List Int × Bool :=
 let m:=aw xs false
 let w:=ai 3 0 1 m.2.1 (m.2.2 || !(m.1 == 76))
 let h:=ai 3 0 1 w.2.1 w.2.2
 let r:=ai 3 0 1 h.2.1 h.2.2
 let c:=ai 3 0 1 r.2.1 r.2.2
 let f:=aw c.2.1 c.2.2
 (w.1,h.1,r.1,c.1,f.1,f.2.1,f.2.2 || !(decide (w.1<=1024) && decide (h.1<=1024)))
def bQ(xs:List Int):Vw × List Int × Bool :=
 let H:=iA xs
 let l:=fZ H.1 H.2.1 [] H.2.2.2.2.2.1 H.2.2.2.2.2.2
 (⟨H.1,H.2.1,l.1,H.2.2.1,H.2.2.2.1,decide (H.2.2.2.2.1.toNat % 2=1),decide (H.2.2.2.2.1.toNat / 2 % 2=1)⟩,l.2.1,l.2.2)
theorem jf(x:Nat)(h:x<=255):bits .and .u8 (x:Int) 1=((x % 2:Nat):Int):=by
 have key:∀ x:Nat,x<256->bits .and .u8 (x:Int) 1=((x % 2:Nat):Int):=by decide +kernel
 exact key x (by omega)
theorem and_two(x:Nat)(h:x<=255):bits .and .u8 (x:Int) 2=((x / 2 % 2 * 2:Nat):Int):=by
 have key:∀ x:Nat,x<256->bits .and .u8 (x:Int) 2=((x / 2 % 2 * 2:Nat):Int):=by decide +kernel
 exact key x (by omega)
theorem iB:∀ (f wd:Nat) (A:List Cl) (xs:List Int) (bad:Bool),(cb wd f A xs bad).2.1.length<=xs.length/\((cb wd f A xs bad).1.length<=max A.length (wd+1)):=by
 have ins:∀ (f e:Nat) (A:List Cl) (xs:List Int) (bad:Bool),(bK e f A xs bad).2.1.length<=xs.length/\(bK e f A xs bad).1.length<=max A.length (e+1):=by
  intro f
  induction f with
  |zero=>intro e A xs bad;exact ⟨Nat.le_refl _,Nat.le_max_left _ _⟩
  |succ f ih =>
   intro e A xs bad;unfold bK
   split
   next h =>
    have h1:=ih e (A++(bF xs bad).1) (bF xs bad).2.1 (bF xs bad).2.2;have h2:=fp xs bad;rw [List.length_append] at h1;exact ⟨Nat.le_trans h1.1 h2.2.2,by omega⟩
   next=>exact ⟨Nat.le_refl _,Nat.le_max_left _ _⟩
 intro f
 induction f with
 |zero=>intro wd A xs bad;exact ⟨Nat.le_refl _,Nat.le_max_left _ _⟩
 |succ f ih =>
  intro wd A xs bad;have hs:=a9 3 0 1 (xs:=xs) bad;unfold cb
  split
  next h =>
   split
   next=>exact ⟨hs,Nat.zero_le _⟩
   next hb =>
    have kF:eC wd A (ai 3 0 1 xs bad).1=true:=by
     cases hq:eC wd A (ai 3 0 1 xs bad).1 with
     | true=>rfl
     | false=>rw [hq] at hb;simp at hb
    unfold eC at kF;rw [Bool.and_eq_true,decide_eq_true_eq,decide_eq_true_eq] at kF
    split
    next =>
     have h1:=ih wd (A++List.replicate ((ai 3 0 1 xs bad).1 / 2) zc) (ai 3 0 1 xs bad).2.1 false;rw [List.length_append,List.length_replicate] at h1;exact ⟨Nat.le_trans h1.1 hs,by omega⟩
    next =>
     have h2:=ins ((ai 3 0 1 xs bad).1 / 2) (A.length+(ai 3 0 1 xs bad).1 / 2) A (ai 3 0 1 xs bad).2.1 false;have h1:=ih wd (bK (A.length+(ai 3 0 1 xs bad).1 / 2) ((ai 3 0 1 xs bad).1 / 2) A (ai 3 0 1 xs bad).2.1 false).1 (bK (A.length+(ai 3 0 1 xs bad).1 / 2) ((ai 3 0 1 xs bad).1 / 2) A (ai 3 0 1 xs bad).2.1 false).2.1 ((bK (A.length+(ai 3 0 1 xs bad).1 / 2) ((ai 3 0 1 xs bad).1 / 2) A (ai 3 0 1 xs bad).2.1 false).2.2 || !decide ((bK (A.length+(ai 3 0 1 xs bad).1 / 2) ((ai 3 0 1 xs bad).1 / 2) A (ai 3 0 1 xs bad).2.1 false).1.length=A.length+(ai 3 0 1 xs bad).1 / 2));exact ⟨Nat.le_trans h1.1 (Nat.le_trans h2.1 hs),by omega⟩
  next=>exact ⟨Nat.le_refl _,Nat.le_max_left _ _⟩
theorem es{ρ:Operand->Value}{o:Oper}{w:World}{x y:Operand}{a:Option Addr}{n c:Nat}{p:Bool}(ho:o.op=.build 69 #[(1,x),(0,y)])(hx:ρ x=.bool p)(hy:ρ y=.slice a n c):(execOp ρ o).run Tryd.prog w=.ok (.value (.agg #[.slice a n c,.bool p])) w:=by
 unfold execOp
 simp [ho,hx,hy,go_sem]
theorem et{ρ:Operand->Value}{o:Oper}{w:World}{x:Operand}{a:Option Addr}{n c:Nat}{p:Bool}(ho:o.op=.buildSlice 29 1 #[(0,x)])(hx:ρ x=.agg #[.slice a n c,.bool p]):(execOp ρ o).run Tryd.prog w=.ok (.value (.slice (some ⟨w.heap.size,0,none⟩) 1 1)) (w.alloc (.cells [Value.slice a n c,.bool p].toArray 69)):=by
 unfold execOp
 simp [ho,hx,go_sem]
theorem aN:(Tryd.prog.info? 44).map (·.size)=some 7:=by kernel_rfl
theorem gQ(s0 g:Nat)(xs:List Int)(w:World)(h:RdAt s0 w g xs false)(hl:xs.length<=1000000):Calls Tryd.prog 55 #[.pointer (some ⟨g,0,none⟩)] w (fun e w'=>∃ u,e=.returned (bb (bQ xs).1 u)/\HeldE lineE (fun b=>w.heap.size<=b) w' u (bQ xs).1.L/\RdAt s0 w' g (bQ xs).2.1 (bQ xs).2.2/\Upd (fun b=>b=g) w w'/\0<=(bQ xs).1.w/\(bQ xs).1.w<2097152/\0<=(bQ xs).1.h/\(bQ xs).1.h<2097152):=by
 have mm:=h.lt;obtain ⟨W1,hW1⟩:=ab (w.alloc (.cells [Value.int .i64 0,.int .i64 0,.slice none 0 0,.int .i64 0,.int .i64 0,.bool false,.bool false].toArray 44));have b1:Below w.heap.size w W1:=by rw [hW1];exact j0 _ _
 have j2:Has W1 w.heap.size [Value.int .i64 0,.int .i64 0,.slice none 0 0,.int .i64 0,.int .i64 0,.bool false,.bool false] 44:=by rw [hW1];exact Has.new w _ _
 obtain ⟨W2,hW2⟩:=ab (W1.alloc (.cells [Value.int .i64 0,.int .i64 0,.slice none 0 0,.int .i64 0,.int .i64 0,.bool false,.bool false].toArray 44));have b2:Below W1.heap.size W1 W2:=by rw [hW2];exact j0 _ _
 have lW:Has W2 W1.heap.size [Value.int .i64 0,.int .i64 0,.slice none 0 0,.int .i64 0,.int .i64 0,.bool false,.bool false] 44:=by rw [hW2];exact Has.new W1 _ _
 have j2:=j2.below b2 j2.lt;have s1:W1.heap.size=w.heap.size+1:=by rw [hW1];exact Array.size_push _
 have kQ:=aa hW1.symm;have pJ:=aa hW2.symm;obtain ⟨gr,hgr⟩:=ab (w.heap.size);obtain ⟨gv,lL⟩:=ab (W1.heap.size);rw [<-hgr] at j2;rw [<-lL] at lW;have no:=aa hgr;have nK:=aa lL;have hgg:g<gr/\gr<gv:=by omega
 have HA:=aa (And.intro j2 lW);have HR0:=aa ((h.below b1).below b2);have mO:=aa (show Upd (fun b=>b=g) w W2 from .ofBelow (b1.trans (b2.mono b1.size)));obtain ⟨m1,x1,d1,hm⟩ : ∃ a b c,aw xs false=(a,b,c):=⟨_,_,_,rfl⟩;obtain ⟨wd,x2,d2,hwd⟩ : ∃ a b c,ai 3 0 1 x1 (d1 || !(m1 == 76))=(a,b,c):=⟨_,_,_,rfl⟩;obtain ⟨hg,x3,d3,tn⟩ : ∃ a b c,ai 3 0 1 x2 d2=(a,b,c):=⟨_,_,_,rfl⟩;obtain ⟨rr,x4,d4,s8⟩ : ∃ a b c,ai 3 0 1 x3 d3=(a,b,c):=⟨_,_,_,rfl⟩;obtain ⟨cc,x5,d5,hcc⟩ : ∃ a b c,ai 3 0 1 x4 d4=(a,b,c):=⟨_,_,_,rfl⟩;obtain ⟨fl,x6,d6,kM⟩ : ∃ a b c,aw x5 d5=(a,b,c):=⟨_,_,_,rfl⟩;obtain ⟨d7,uC⟩:=ab ((d6 || !(decide (wd<=1024) && decide (hg<=1024))));have HE:=aa (show iA xs=(wd,hg,rr,cc,fl,x6,d7) from by
  unfold iA;simp only [hm,hwd,tn,s8,hcc,kM,uC])
 have rA:=aa uC;have hx6:x6.length<=1000000:=by
  have e1:=(dh (xs:=xs) false).1;have e2:=a9 3 0 1 (xs:=x1) (d1 || !(m1 == 76));have e3:=a9 3 0 1 (xs:=x2) d2;have e4:=a9 3 0 1 (xs:=x3) d3;have e5:=a9 3 0 1 (xs:=x4) d4;have e6:=(dh (xs:=x5) d5).1;rw [hm] at e1;rw [hwd] at e2;rw [tn] at e3;rw [s8] at e4;rw [hcc] at e5;rw [kM] at e6
  dsimp only at e1 e2 e3 e4 e5 e6
  omega
 have t8:=aa hwd;have vm:=aa tn;have q8:=aa s8;have uH:=aa hcc;have mn:=aa kM;have hgw1:=nK.out;have sJ:gv=w.heap.size+1:=by rw [hgw1,s1]
 have HC:=aa (show Calls Tryd.prog 90 #[.pointer (some ⟨g,0,none⟩)] W2 (dO s0 g W2 (fun _ u=>u=.int .u8 m1) x1 d1) from by have:=ce s0 g xs false W2 HR0.out;rw [hm] at this;exact this);have pH:=aa sJ.symm;clear hW1 b1 j2 hW2 b2 lW s1 hgr lL h hwd tn s8 hcc kM uC hm hgw1 sJ
 go_enter Tryd.func55,Tryd.ntmps55
 go_upto_region 2 with (fail)
 rw [kQ.out,pJ.out,pH.out,<-no.out]
 go_wp2_with fail
 refine (HC.out).mono ?_;rintro e w1 ⟨u1,rfl,rfl,hr1,nB⟩;have rT:=aa (mO.out.trans nB);have rq:=aa (And.intro (nB.keep.has HA.out.1 (fun e=>by omega)) (nB.keep.has HA.out.2 (fun e=>by omega)));have ox:=aa (bp s0 g x1 d1 (m1 == 76) w1 hr1);clear HC kQ pJ pH mO HA HR0 hr1 nB
 go_wp2_with fail
 refine (ox.out).mono ?_;rintro e w2 ⟨rfl,hr2,mq⟩;have mB:=aa (show Calls Tryd.prog 91 #[.pointer (some ⟨g,0,none⟩)] w2 (dO s0 g w2 (fun _ u=>u=.int .i64 (wd:Int)) x2 d2) from by have:=aY s0 g x1 (d1 || !(m1 == 76)) w2 hr2;rw [t8.out] at this;exact this);have hwl:wd<2097152:=by have:=cA 3 0 1 x1 (d1 || !(m1 == 76)) hr2.2.1 (by decide);rw [t8.out] at this;exact this
 have n8:=aa (rT.out.trans mq);have oa:=aa (And.intro (mq.keep.has rq.out.1 (fun e=>by omega)) (mq.keep.has rq.out.2 (fun e=>by omega)));clear ox rT rq t8 hr2 mq
 go_wp2_with fail
 refine (mB.out).mono ?_;rintro e w3 ⟨u3,rfl,rfl,hr3,m5⟩;have HC3:=aa (show Calls Tryd.prog 91 #[.pointer (some ⟨g,0,none⟩)] w3 (dO s0 g w3 (fun _ u=>u=.int .i64 (hg:Int)) x3 d3) from by have:=aY s0 g x2 d2 w3 hr3;rw [vm.out] at this;exact this);have hhl:hg<2097152:=by have:=cA 3 0 1 x2 d2 hr3.2.1 (by decide);rw [vm.out] at this;exact this
 have lU:=aa (n8.out.trans m5);have rF:=aa (And.intro (m5.keep.has oa.out.1 (fun e=>by omega)) (m5.keep.has oa.out.2 (fun e=>by omega)));clear mB n8 oa vm hr3 m5
 go_wp2_with fail
 refine (HC3.out).mono ?_;rintro e w4 ⟨u4,rfl,rfl,hr4,nH⟩;have lV:=aa (And.intro (nH.keep.has rF.out.1 (fun e=>by omega)) (nH.keep.has rF.out.2 (fun e=>by omega)));obtain ⟨Wa,sq⟩:=ab ((w4.setCell ⟨gv,0,none⟩ (.int .i64 (wd:Int))).setCell ⟨gv,1,none⟩ (.int .i64 (hg:Int)));have ha:Upd (fun b=>b=gv) w4 Wa:=by rw [sq];exact ((Upd.refl (fun b=>b=gv) w4).setCell (p:=⟨gv,0,none⟩) (.inl rfl) _).setCell (p:=⟨gv,1,none⟩) (.inl rfl) _
 have uz:=aa (show Has Wa gr [Value.int .i64 0,.int .i64 0,.slice none 0 0,.int .i64 0,.int .i64 0,.bool false,.bool false] 44/\Has Wa gv [Value.int .i64 (wd:Int),.int .i64 (hg:Int),.slice none 0 0,.int .i64 0,.int .i64 0,.bool false,.bool false] 44 from ⟨ha.keep.has lV.out.1 (fun e=>by omega),by rw [sq];exact (lV.out.2.set 0 _).set 1 _⟩);have HUa:=aa (show Upd (fun b=>b=g) w Wa from by rw [sq];exact ((lU.out.trans nH).setCell (.inr (by show w.heap.size<=gv;have:=no.out;omega)) _).setCell (.inr (by show w.heap.size<=gv;have:=no.out;omega)) _);have sC:=hr4.upd ha (fun b e=>by omega);have HC4:=aa (show Calls Tryd.prog 91 #[.pointer (some ⟨g,0,none⟩)] Wa (dO s0 g Wa (fun _ u=>u=.int .i64 (rr:Int)) x4 d4) from by have:=aY s0 g x3 d3 Wa sC;rw [q8.out] at this;exact this);have qk:rr<2097152:=by have:=cA 3 0 1 x3 d3 sC.2.1 (by decide);rw [q8.out] at this;exact this
 have q0:=lV.out.2.cell 0 _ rfl;have q1:=lV.out.2.cell 1 _ rfl;have f0:=lV.out.2.free 0;have f1:=lV.out.2.free 1;have HWa:=aa sq.symm;clear HC3 lU rF q8 hr4 nH lV sq ha sC
 go_wp2_with fail
 rw [HWa.out];refine HC4.out.mono ?_;rintro e w5 ⟨u5,rfl,rfl,uL,tm⟩;have HC5:=aa (show Calls Tryd.prog 91 #[.pointer (some ⟨g,0,none⟩)] w5 (dO s0 g w5 (fun _ u=>u=.int .i64 (cc:Int)) x5 d5) from by have:=aY s0 g x4 d4 w5 uL;rw [uH.out] at this;exact this);have lj:cc<2097152:=by have:=cA 3 0 1 x4 d4 uL.2.1 (by decide);rw [uH.out] at this;exact this
 have th:=aa (HUa.out.trans tm);have ui:=aa (And.intro (tm.keep.has uz.out.1 (fun e=>by omega)) (tm.keep.has uz.out.2 (fun e=>by omega)));clear HC4 HUa uz uH uL tm HWa q0 q1 f0 f1
 go_wp2_with fail
 refine (HC5.out).mono ?_;rintro e w6 ⟨u6,rfl,rfl,rs,pF⟩;have qm:=aa (And.intro (pF.keep.has ui.out.1 (fun e=>by omega)) (pF.keep.has ui.out.2 (fun e=>by omega)));obtain ⟨Wb,su⟩:=ab ((w6.setCell ⟨gv,3,none⟩ (.int .i64 (rr:Int))).setCell ⟨gv,4,none⟩ (.int .i64 (cc:Int)));have ha:Upd (fun b=>b=gv) w6 Wb:=by rw [su];exact ((Upd.refl (fun b=>b=gv) w6).setCell (p:=⟨gv,3,none⟩) (.inl rfl) _).setCell (p:=⟨gv,4,none⟩) (.inl rfl) _
 have vj:=aa (show Has Wb gr [Value.int .i64 0,.int .i64 0,.slice none 0 0,.int .i64 0,.int .i64 0,.bool false,.bool false] 44/\Has Wb gv [Value.int .i64 (wd:Int),.int .i64 (hg:Int),.slice none 0 0,.int .i64 (rr:Int),.int .i64 (cc:Int),.bool false,.bool false] 44 from ⟨ha.keep.has qm.out.1 (fun e=>by omega),by rw [su];exact (qm.out.2.set 3 _).set 4 _⟩);have HUb:=aa (show Upd (fun b=>b=g) w Wb from by rw [su];exact ((th.out.trans pF).setCell (.inr (by show w.heap.size<=gv;have:=no.out;omega)) _).setCell (.inr (by show w.heap.size<=gv;have:=no.out;omega)) _);have na:=rs.upd ha (fun b e=>by omega);have HC6:=aa (show Calls Tryd.prog 90 #[.pointer (some ⟨g,0,none⟩)] Wb (dO s0 g Wb (fun _ u=>u=.int .u8 fl) x6 d6) from by have:=ce s0 g x5 d5 Wb na;rw [mn.out] at this;exact this);have hfb:0<=fl/\fl<=255:=by have:=cd na.2.1 d5;rw [mn.out] at this;exact this
 have q3:=qm.out.2.cell 3 _ rfl;have q4:=qm.out.2.cell 4 _ rfl;have f3:=qm.out.2.free 3;have f4:=qm.out.2.free 4;have HWb:=aa su.symm;clear HC5 th ui mn rs pF qm su ha na
 go_wp2_with fail
 rw [HWb.out];refine HC6.out.mono ?_;rintro e w7 ⟨u7,rfl,rfl,hr7,tu⟩;have qV:=aa (HUb.out.trans tu);have qs:=aa (And.intro (tu.keep.has vj.out.1 (fun e=>by omega)) (tu.keep.has vj.out.2 (fun e=>by omega)));have HR7:=aa hr7;clear HC6 HUb vj hr7 tu HWb q3 q4 f3 f4;obtain ⟨fn,hfn⟩ : ∃ fn:Nat,fl=(fn:Int):=⟨fl.toNat,by omega⟩;subst hfn;obtain ⟨p1,nB⟩:=ab (fn % 2);obtain ⟨p2,mq⟩:=ab (fn / 2 % 2 * 2);have hb1:bits .and .u8 (fn:Int) 1=(p1:Int):=by rw [jf fn (by omega),nB]
 have hb2:bits .and .u8 (fn:Int) 2=(p2:Int):=by rw [and_two fn (by omega),mq]
 obtain ⟨pd,p9⟩:=ab (decide (fn % 2=1));obtain ⟨au,uZ⟩:=ab (decide (fn / 2 % 2=1));have lX:((p1:Int) != 0)=pd:=by
  rw [p9,<-nB];have:p1=0\/p1=1:=by omega
  rcases this with h | h <;> rw [h] <;> decide
 have qX:((p2:Int) != 0)=au:=by
  rw [uZ];have:fn / 2 % 2=0\/fn / 2 % 2=1:=by omega
  rw [mq]
  rcases this with h | h <;> rw [h] <;> decide
 have sV:=aa p9;have HAU:=aa uZ;clear nB mq p9 uZ;obtain ⟨Wc,sx⟩:=ab ((w7.setCell ⟨gv,5,none⟩ (.bool pd)).setCell ⟨gv,6,none⟩ (.bool au));have q5:=qs.out.2.cell 5 _ rfl;have q6:=qs.out.2.cell 6 _ rfl;have f5:=qs.out.2.free 5;have f6:=qs.out.2.free 6
 go_upto_region 7 with (fail)
 have ha:Upd (fun b=>b=gv) w7 Wc:=by rw [sx];exact ((Upd.refl (fun b=>b=gv) w7).setCell (p:=⟨gv,5,none⟩) (.inl rfl) _).setCell (p:=⟨gv,6,none⟩) (.inl rfl) _
 have sF:=aa (show Has Wc gr [Value.int .i64 0,.int .i64 0,.slice none 0 0,.int .i64 0,.int .i64 0,.bool false,.bool false] 44/\Has Wc gv [Value.int .i64 (wd:Int),.int .i64 (hg:Int),.slice none 0 0,.int .i64 (rr:Int),.int .i64 (cc:Int),.bool pd,.bool au] 44 from ⟨ha.keep.has qs.out.1 (fun e=>by omega),by rw [sx];exact (qs.out.2.set 5 _).set 6 _⟩);have HUc:=aa (show Upd (fun b=>b=g) w Wc from by rw [sx];exact (qV.out.setCell (.inr (by show w.heap.size<=gv;have:=no.out;omega)) _).setCell (.inr (by show w.heap.size<=gv;have:=no.out;omega)) _);have uP:=aa (HR7.out.upd ha (fun b e=>by omega));rw [<-sx];clear qV qs HR7 q5 q6 f5 f6 sx ha hb1 hb2 lX qX
 go_cut [46] from 37 to 46 (fun tv wx=>Hid (RdAt s0 wx g x6 d7/\Upd (fun b=>b=g) Wc wx))
 case first =>
  have q0:=sF.out.2.cell 0 _ rfl;have q1:=sF.out.2.cell 1 _ rfl
  by_cases hw:wd<=1024
  ·have d1:decide ((wd:Int)<=1024)=true:=ag (by omega);have d1n:decide (wd<=1024)=true:=ag (by omega);have d2:decide ((hg:Int)<=1024)=decide (hg<=1024):=decide_eq_decide.2 (by omega);have nD:=aa (bp s0 g x6 d6 (decide (hg<=1024)) Wc uP.out);rw [<-d2] at nD;have uD:=aa (show d7=(d6 || !(decide ((hg:Int)<=1024))) from by rw [rA.out,d1n,d2,Bool.true_and]);clear hw rA d2
   go_wp2_with fail
   refine nD.out.mono ?_;rintro e w8 ⟨rfl,ry,rV⟩;have HF:=aa (show RdAt s0 w8 g x6 d7/\Upd (fun b=>b=g) Wc w8 from ⟨by rw [uD.out];exact ry,rV⟩);clear ry rV;go_wp2;go_meet
   case rel=>exact HF
  ·have d1:decide ((wd:Int)<=1024)=false:=ah (by omega);have d1n:decide (wd<=1024)=false:=ah (by omega);have nD:=aa (bp s0 g x6 d6 false Wc uP.out);have uD:=aa (show d7=(d6 || !false) from by rw [rA.out,d1n,Bool.false_and]);clear hw rA
   go_wp2_with fail
   refine nD.out.mono ?_;rintro e w8 ⟨rfl,ry,rV⟩;have HF:=aa (show RdAt s0 w8 g x6 d7/\Upd (fun b=>b=g) Wc w8 from ⟨by rw [uD.out];exact ry,rV⟩);clear ry rV;go_wp2;go_meet
   case rel=>exact HF
 case rest =>
  have HLIM:=aa (show d7=false->wd<=1024/\hg<=1024 from fun h=>by
   have:=rA.out.symm;rw [h,Bool.or_eq_false_iff] at this;have h2:=this.2;rw [Bool.not_eq_false',Bool.and_eq_true,decide_eq_true_eq,decide_eq_true_eq] at h2;exact h2)
  obtain ⟨w8,hw8⟩:=ab (wc);subst hw8;have HR8:=aa hcut.out.1;have HU8:=aa (HUc.out.trans hcut.out.2);have sY:=aa (And.intro (hcut.out.2.keep.has sF.out.1 (fun e=>by omega)) (hcut.out.2.keep.has sF.out.2 (fun e=>by omega)));have hsz8:=sY.out.2.lt;clear hcut uP HUc sF rA;obtain ⟨R,hR⟩:=ab (fZ wd hg [] x6 d7);have q8:=aa hR;clear hR;go_wp2
  go_loopw [5] (fun cv wr=>∃ (i n cap:Nat) (ao:Option Addr) (A:List Ln) (ys:List Int) (bd:Bool),cv=.int .i64 (i:Int)/\i<=hg/\gv<wr.heap.size/\Hid (n=i/\i=A.length/\fZ wd (hg - i) A ys bd=R/\ys.length<=1000000/\(bd=false->wd<=1024/\hg<=1024)/\Has wr gr [Value.int .i64 0,.int .i64 0,.slice none 0 0,.int .i64 0,.int .i64 0,.bool false,.bool false] 44/\Has wr gv [Value.int .i64 (wd:Int),.int .i64 (hg:Int),.slice ao n cap,.int .i64 (rr:Int),.int .i64 (cc:Int),.bool pd,.bool au] 44/\OwnE lineE (fun b=>gv<b) wr (gv+1) 69 (.slice ao n cap) A/\RdAt s0 wr g ys bd/\Upd (fun b=>b=g) w wr)) (fun cv _=>hg - (intOf cv).toNat)
  case atStart=>exact ⟨0,0,0,none,[],x6,d7,rfl,Nat.zero_le _,hsz8,aa ⟨rfl,rfl,q8.out.symm,hx6,HLIM.out,sY.out.1,sY.out.2,OwnE.nil _ _ _ _ _,HR8.out,HU8.out⟩⟩
  case round =>
   clear HR8 HU8 sY hsz8 HLIM;obtain ⟨i,n,cap,ao,A,ys,bd,rfl,hih,hszr,HS⟩:=hrel;obtain ⟨wo,pj⟩:=ab (wr);subst pj;obtain ⟨tt,nn⟩:=ab ((decide (i<hg) && !bd));have j9:=aa nn;clear nn
   go_upto_region 9 with (fail)
   go_cut [57] from 47 to 57 (fun tv wx=>tv=.bool tt/\wx=wo)
   case first =>
    obtain ⟨_,_,rv,hh,_⟩:=HS.out.2.2.2.2.2.2.2.2.1;have q1:=hh.cell 1 _ rfl;have c1:=HS.out.2.2.2.2.2.2.1.cell 1 _ rfl
    by_cases hlt:i<hg
    ·have d1:decide ((i:Int)<(hg:Int))=true:=ag (by omega);have d1n:decide (i<hg)=true:=ag (by omega);have d2:(i:Int)<(hg:Int):=by omega
     have e:tt = !bd:=by rw [j9.out,d1n,Bool.true_and]
     subst e;clear j9 hlt hh;go_wp2;go_meet
     case rel=>exact ⟨rfl,rfl⟩
    ·have d1:decide ((i:Int)<(hg:Int))=false:=ah (by omega);have d1n:decide (i<hg)=false:=ah (by omega);have d2:¬ (i:Int)<(hg:Int):=by omega
     have e:tt=false:=by rw [j9.out,d1n,Bool.false_and]
     subst e;clear j9 hlt hh;go_wp2;go_meet
     case rel=>exact ⟨rfl,rfl⟩
   case rest =>
    obtain ⟨rfl,rfl⟩:=hcut;obtain ⟨wq,lR⟩:=ab (wc);subst lR;have HNI:=aa HS.out.1
    cases tt with
    |true =>
     have rR:i<hg/\bd=false:=by
      have:=j9.out.symm;rw [Bool.and_eq_true,decide_eq_true_eq] at this;exact ⟨this.1,by cases bd;rfl;exact absurd this.2 (by decide)⟩
     obtain ⟨hlt,le⟩:=rR;subst le;obtain ⟨o5,hhm⟩:=HS.out.2.2.2.2.1 rfl;obtain ⟨m2,y1,e1,oM⟩ : ∃ a b c,aw ys false=(a,b,c):=⟨_,_,_,rfl⟩;obtain ⟨CL,y2,e2,nG⟩ : ∃ a b c,cb wd wd [] y1 e1=(a,b,c):=⟨_,_,_,rfl⟩;obtain ⟨wp,qR⟩:=ab (decide (m2=1));have uA:(m2 == 1)=wp:=by
      rw [qR]
      by_cases h:m2=1
      ·rw [h];decide
      ·rw [decide_eq_false h,beq_eq_false_iff_ne];exact h
     have ng:y1.length<=1000000:=by
      have e1:=(dh (xs:=ys) false).1;rw [oM] at e1;exact Nat.le_trans e1 HS.out.2.2.2.1
     have hcs:=iB wd wd [] y1 e1;rw [nG] at hcs;have hy2:y2.length<=1000000:=Nat.le_trans hcs.1 ng;have tA:=aa (show fZ wd (hg - (i+1)) (A++[(CL,wp)]) y2 e2=R from by
      have h:=HS.out.2.2.1;rw [show hg - i=(hg - (i+1))+1 from by omega] at h;unfold fZ at h;rw [if_neg (by decide)] at h;simp only [oM,nG] at h;rw [qR];exact h)
     have HCO:=aa (show Calls Tryd.prog 90 #[.pointer (some ⟨g,0,none⟩)] wq (dO s0 g wq (fun _ u=>u=.int .u8 m2) y1 e1) from by have:=ce s0 g ys false wq HS.out.2.2.2.2.2.2.2.2.1;rw [oM] at this;exact this);have HCC2:=aa nG;clear qR hcs oM nG j9
     go_wp2_with fail
     refine HCO.out.mono ?_;rintro e wk ⟨u1,rfl,rfl,nL,sD⟩;have l1:=aa HS.out.2.1;have rp:=aa (HS.out.2.2.2.2.2.2.2.2.2.trans sD);have HRk:=aa nL;have HGRk:=aa (sD.keep.has HS.out.2.2.2.2.2.1 (fun e=>by omega));have o0:=aa (sD.keep.has HS.out.2.2.2.2.2.2.1 (fun e=>by omega));have ns:=aa (HS.out.2.2.2.2.2.2.2.1.upd sD (fun b hb e=>by
      rcases hb with hb | hb
      ·omega
      ·have:=(HS.out.2.2.2.2.2.2.2.1.lt b hb).1;omega))
     have qx:gv<wk.heap.size:=o0.out.lt;clear HS nL sD HCO
     go_upto_region 12 with (fail)
     obtain ⟨j4,kd⟩ : ∃ EE:Nat->Value->World->Prop,EE=fun jj xx ww=>match jj with
       |0=>xx=.pointer (some ⟨gv,2,none⟩)
       |1=>xx=.slice ao n cap
       |2=>xx=.bool wp
       |3=>xx=.pointer (some ⟨g,0,none⟩)
       |4=>xx=.pointer (some ⟨gv,0,none⟩)
       |5=>xx=.int .i64 (wd:Int)
       |6=>(fun x w'=>HeldE cellE (fun b=>wk.heap.size<=b) w' x CL) xx ww
       |7=>(fun x w'=>∃ v,x=.agg #[v,.bool wp]/\HeldE cellE (fun b=>wk.heap.size<=b) w' v CL) xx ww
       |8=>(fun x w'=>HeldE lineE (fun b=>wk.heap.size<=b) w' x [(CL,wp)]) xx ww
       |9=>(fun x w'=>OwnE lineE (fun b=>gv<b) w' (gv+1) 69 x (A++[(CL,wp)])) xx ww
       |10=>xx=.pointer (some ⟨gv,2,none⟩)
       |11=>xx=undef
       |_=>True:=⟨_,rfl⟩
     have ergq0:∀ xx ww,j4 0 xx ww=(xx=.pointer (some ⟨gv,2,none⟩)):=fun xx ww=>congrFun (congrFun (congrFun kd 0) xx) ww
     have ergq1:∀ xx ww,j4 1 xx ww=(xx=.slice ao n cap):=fun xx ww=>congrFun (congrFun (congrFun kd 1) xx) ww
     have ergq2:∀ xx ww,j4 2 xx ww=(xx=.bool wp):=fun xx ww=>congrFun (congrFun (congrFun kd 2) xx) ww
     have ergq3:∀ xx ww,j4 3 xx ww=(xx=.pointer (some ⟨g,0,none⟩)):=fun xx ww=>congrFun (congrFun (congrFun kd 3) xx) ww
     have ergq4:∀ xx ww,j4 4 xx ww=(xx=.pointer (some ⟨gv,0,none⟩)):=fun xx ww=>congrFun (congrFun (congrFun kd 4) xx) ww
     have ergq5:∀ xx ww,j4 5 xx ww=(xx=.int .i64 (wd:Int)):=fun xx ww=>congrFun (congrFun (congrFun kd 5) xx) ww
     have ergq6:∀ xx ww,j4 6 xx ww=((fun x w'=>HeldE cellE (fun b=>wk.heap.size<=b) w' x CL) xx ww):=fun xx ww=>congrFun (congrFun (congrFun kd 6) xx) ww
     have ergq7:∀ xx ww,j4 7 xx ww=((fun x w'=>∃ v,x=.agg #[v,.bool wp]/\HeldE cellE (fun b=>wk.heap.size<=b) w' v CL) xx ww):=fun xx ww=>congrFun (congrFun (congrFun kd 7) xx) ww
     have ergq8:∀ xx ww,j4 8 xx ww=((fun x w'=>HeldE lineE (fun b=>wk.heap.size<=b) w' x [(CL,wp)]) xx ww):=fun xx ww=>congrFun (congrFun (congrFun kd 8) xx) ww
     have ergq9:∀ xx ww,j4 9 xx ww=((fun x w'=>OwnE lineE (fun b=>gv<b) w' (gv+1) 69 x (A++[(CL,wp)])) xx ww):=fun xx ww=>congrFun (congrFun (congrFun kd 9) xx) ww
     have ergq10:∀ xx ww,j4 10 xx ww=(xx=.pointer (some ⟨gv,2,none⟩)):=fun xx ww=>congrFun (congrFun (congrFun kd 10) xx) ww
     have ergq11:∀ xx ww,j4 11 xx ww=(xx=undef):=fun xx ww=>congrFun (congrFun (congrFun kd 11) xx) ww
     obtain ⟨kO,mt⟩ : ∃ CC:Array Bool->World->Prop,CC=fun L w'=>(Mix.one L 6=0->Below wk.heap.size wk w')/\(Mix.one L 9=0->Upd (fun b=>b=g) wk w')/\(Mix.one L 11=0->Upd (fun b=>b=g\/(Value.slice ao n cap).ownBlock=some b) wk w')/\(Mix.one L 6=1->RdAt s0 w' g y2 e2)/\(Mix.one L 11=1->(∃ v,Has w' gv [Value.int .i64 (wd:Int),.int .i64 (hg:Int),v,.int .i64 (rr:Int),.int .i64 (cc:Int),.bool pd,.bool au] 44/\OwnE lineE (fun b=>gv<b) w' (gv+1) 69 v (A++[(CL,wp)]))/\Upd (fun b=>b=g\/b=gv\/(Value.slice ao n cap).ownBlock=some b) wk w'):=⟨_,rfl⟩
     have krgq:∀ i L w,i≠6->i≠9->i≠11 ->  kO L w->kO (L.setIfInBounds i true) w:=by
      intro i L w q6 q9 q11 h;rw [mt] at h ⊢;simp only [Mix.one_ne q6,Mix.one_ne q9,Mix.one_ne q11];exact h
     obtain ⟨kU,m7⟩ : ∃ XX:Nat->World->World->Prop,XX=fun kk ww1 ww2=>if kk=9 then (fun x y=>Upd (fun b=>(Value.slice ao n cap).ownBlock=some b) x y) ww1 ww2 else (fun x y=>Upd (fun b=>b=g\/b=gv) x y) ww1 ww2:=⟨_,rfl⟩
     have xrgq:∀ {k:Nat} (w:World),kU k w w:=by
      intro k w;rw [m7];show if k=9 then _ else _
      split
      ·exact Upd.refl _ _
      ·exact Upd.refl _ _
     have crgq:kO (Array.replicate 12 false) wk.drew:=by rw [mt];exact ⟨fun _=>(Below.refl _ _).drew,fun _=>(Upd.refl _ _).drew,fun _=>(Upd.refl _ _).drew,fun e=>absurd e (by decide),fun e=>absurd e (by decide)⟩
     have brgq:∀ L w w1,kO L w->Below w.heap.size w w1->kO L w1:=by
      intro L w w1 h hb;rw [mt] at h ⊢
      (obtain ⟨q1,q2,q3,q4,q5⟩:=h;exact ⟨fun e=>(q1 e).trans (hb.mono (q1 e).size),fun e=>(q2 e).trans (.ofBelow hb),fun e=>(q3 e).trans (.ofBelow hb),fun e=>(q4 e).below hb,fun e=>by obtain ⟨⟨v,a1,a2⟩,a3⟩:=q5 e;exact ⟨⟨v,a1.below hb a1.lt,a2.below hb⟩,a3.trans (.ofBelow hb)⟩⟩)
     have xbrgq:∀ {k:Nat} (w w1:World),Below w.heap.size w w1->kU k w w1:=by
      intro k w w1 hb;rw [m7];show if k=9 then _ else _
      split
      ·exact Upd.ofBelow hb
      ·exact Upd.ofBelow hb
     have Hrgqb:=aa brgq;have Hrgqxb:Hid (∀ {k:Nat} (w w1:World),Below w.heap.size w w1->kU k w w1):=@xbrgq;clear brgq xbrgq;have m0:=aa kd;clear kd;have kw:=aa krgq;have kI:Hid (∀ {k:Nat} (w:World),kU k w w):=@xrgq;have Hrgqc:=aa crgq;have j7:=aa mt;have lE:=aa m7;have lG:=aa ergq0;have lK:=aa ergq1;have lC:=aa ergq2;have lq:=aa ergq3;have lM:=aa ergq4;have lA:=aa ergq5;have lN:=aa ergq6;have lF:=aa ergq7;have lm:=aa ergq8;have l2:=aa ergq9;have kK:=aa ergq10;have lh:=aa ergq11;clear krgq xrgq crgq mt m7 ergq0 ergq1 ergq2 ergq3 ergq4 ergq5 ergq6 ergq7 ergq8 ergq9 ergq10 ergq11
     go_wp2_with fail
     refine RegX.regionF j4 kO kU ?_ (by kernel_rfl) (by kernel_rfl) (by kernel_rfl) Hrgqc.out (fun Frgq j6=>?_)
     ·intro ii jj x w w1 lP hr hx h;rw [lE.out] at hx
      by_cases hi:ii=9
      ·subst hi;simp only [if_pos] at hx
       match jj with
       |0=>rw [lG.out] at h ⊢;exact h
       |1=>rw [lK.out] at h ⊢;exact h
       |2=>rw [lC.out] at h ⊢;exact h
       |3=>rw [lq.out] at h ⊢;exact h
       |4=>rw [lM.out] at h ⊢;exact h
       |5=>rw [lA.out] at h ⊢;exact h
       |6=>rw [lN.out] at h ⊢;(first | exact HeldE.upd h hx (fun b hb e=>by have hb:wk.heap.size<=b:=hb;have:=(ns.out.lt b e).2;omega) | (obtain ⟨v,e1,h⟩:=h;exact ⟨v,e1,HeldE.upd h hx (fun b hb e=>by have hb:wk.heap.size<=b:=hb;have:=(ns.out.lt b e).2;omega)⟩))
       |7=>rw [lF.out] at h ⊢;(first | exact HeldE.upd h hx (fun b hb e=>by have hb:wk.heap.size<=b:=hb;have:=(ns.out.lt b e).2;omega) | (obtain ⟨v,e1,h⟩:=h;exact ⟨v,e1,HeldE.upd h hx (fun b hb e=>by have hb:wk.heap.size<=b:=hb;have:=(ns.out.lt b e).2;omega)⟩))
       |8=>rw [lm.out] at h ⊢;(first | exact HeldE.upd h hx (fun b hb e=>by have hb:wk.heap.size<=b:=hb;have:=(ns.out.lt b e).2;omega) | (obtain ⟨v,e1,h⟩:=h;exact ⟨v,e1,HeldE.upd h hx (fun b hb e=>by have hb:wk.heap.size<=b:=hb;have:=(ns.out.lt b e).2;omega)⟩))
       |9=>exact absurd rfl lP
       |10=>rw [kK.out] at h ⊢;exact h
       |11=>rw [lh.out] at h ⊢;exact h
       |jj+12=>rw [m0.out];trivial
      ·simp only [if_neg hi] at hx
       match jj with
       |0=>rw [lG.out] at h ⊢;exact h
       |1=>rw [lK.out] at h ⊢;exact h
       |2=>rw [lC.out] at h ⊢;exact h
       |3=>rw [lq.out] at h ⊢;exact h
       |4=>rw [lM.out] at h ⊢;exact h
       |5=>rw [lA.out] at h ⊢;exact h
       |6=>rw [lN.out] at h ⊢;(first | exact HeldE.upd h hx (fun b hb e=>by have hb:wk.heap.size<=b:=hb;rcases e with e | e <;> omega) | exact OwnE.upd h hx (fun b hb e=>by rcases hb with hb | hb;(have hb:gv<b:=hb;rcases e with e | e <;> omega);(have:=(OwnE.lt h b hb).1;rcases e with e | e <;> omega)) | (obtain ⟨v,e1,h⟩:=h;exact ⟨v,e1,HeldE.upd h hx (fun b hb e=>by have hb:wk.heap.size<=b:=hb;rcases e with e | e <;> omega)⟩))
       |7=>rw [lF.out] at h ⊢;(first | exact HeldE.upd h hx (fun b hb e=>by have hb:wk.heap.size<=b:=hb;rcases e with e | e <;> omega) | exact OwnE.upd h hx (fun b hb e=>by rcases hb with hb | hb;(have hb:gv<b:=hb;rcases e with e | e <;> omega);(have:=(OwnE.lt h b hb).1;rcases e with e | e <;> omega)) | (obtain ⟨v,e1,h⟩:=h;exact ⟨v,e1,HeldE.upd h hx (fun b hb e=>by have hb:wk.heap.size<=b:=hb;rcases e with e | e <;> omega)⟩))
       |8=>rw [lm.out] at h ⊢;(first | exact HeldE.upd h hx (fun b hb e=>by have hb:wk.heap.size<=b:=hb;rcases e with e | e <;> omega) | exact OwnE.upd h hx (fun b hb e=>by rcases hb with hb | hb;(have hb:gv<b:=hb;rcases e with e | e <;> omega);(have:=(OwnE.lt h b hb).1;rcases e with e | e <;> omega)) | (obtain ⟨v,e1,h⟩:=h;exact ⟨v,e1,HeldE.upd h hx (fun b hb e=>by have hb:wk.heap.size<=b:=hb;rcases e with e | e <;> omega)⟩))
       |9=>rw [l2.out] at h ⊢;(first | exact HeldE.upd h hx (fun b hb e=>by have hb:wk.heap.size<=b:=hb;rcases e with e | e <;> omega) | exact OwnE.upd h hx (fun b hb e=>by rcases hb with hb | hb;(have hb:gv<b:=hb;rcases e with e | e <;> omega);(have:=(OwnE.lt h b hb).1;rcases e with e | e <;> omega)) | (obtain ⟨v,e1,h⟩:=h;exact ⟨v,e1,HeldE.upd h hx (fun b hb e=>by have hb:wk.heap.size<=b:=hb;rcases e with e | e <;> omega)⟩))
       |10=>rw [kK.out] at h ⊢;exact h
       |11=>rw [lh.out] at h ⊢;exact h
       |jj+12=>rw [m0.out];trivial
     simp only [Reg.frame,Reg.dsts,List.map_cons,List.map_nil,Mix.put_lit,Reg.put_none,List.set_cons_succ,List.set_cons_zero,Nat.zero_add,Nat.reduceAdd] at j6;refine ⟨?_,?_⟩
     ·refine ⟨?_,?_,?_,?_,?_,?_,?_,?_,?_,?_,?_,?_,trivial⟩
      ·intro Lq wq xq hh;simp only [j6];refine .inl ⟨rfl,?_⟩;unfold Reg.upon;have hk:=kw.out 0 Lq wq (by decide) (by decide) (by decide)  hh.cls;have hx:kU 0 wq wq:=kI.out wq;have he:j4 0 (.pointer (some ⟨gv,2,none⟩)) wq:=by rw [lG.out]
       have HK:=aa (And.intro hk (And.intro he hx));clear hk hx he;go_simp;exact HK.out
      ·intro Lq wq xq hh;have d0:j4 0 (xq 0) wq:=hh.val 0 (by kernel_rfl) (by kernel_rfl);rw [lG.out] at d0;simp only [j6,d0];clear d0;refine .inl ⟨rfl,?_⟩;unfold Reg.upon;have hc:kO Lq wq:=hh.cls;rw [j7.out] at hc;have q0:=((hc.2.1 (Mix.one_un (hh.notYet 9 (by kernel_rfl)))).keep.has o0.out (fun e=>by omega)).cell 2 _ rfl;clear hc;have hk:=kw.out 1 Lq wq (by decide) (by decide) (by decide)  hh.cls;have hx:kU 1 wq wq:=kI.out wq;have he:j4 1 (.slice ao n cap) wq:=by rw [lK.out]
       have HK:=aa (And.intro hk (And.intro he hx));clear hk hx he;go_simp;exact HK.out
      ·intro Lq wq xq hh;simp only [j6];refine .inl ⟨rfl,?_⟩;unfold Reg.upon;have hk:=kw.out 2 Lq wq (by decide) (by decide) (by decide)  hh.cls;have hx:kU 2 wq wq:=kI.out wq;have he:j4 2 (.bool wp) wq:=by rw [lC.out]
       have HK:=aa (And.intro hk (And.intro he hx));clear hk hx he;go_simp;exact HK.out
      ·intro Lq wq xq hh;simp only [j6];refine .inl ⟨rfl,?_⟩;unfold Reg.upon;have hk:=kw.out 3 Lq wq (by decide) (by decide) (by decide)  hh.cls;have hx:kU 3 wq wq:=kI.out wq;have he:j4 3 (.pointer (some ⟨g,0,none⟩)) wq:=by rw [lq.out]
       have HK:=aa (And.intro hk (And.intro he hx));clear hk hx he;go_simp;exact HK.out
      ·intro Lq wq xq hh;simp only [j6];refine .inl ⟨rfl,?_⟩;unfold Reg.upon;have hk:=kw.out 4 Lq wq (by decide) (by decide) (by decide)  hh.cls;have hx:kU 4 wq wq:=kI.out wq;have he:j4 4 (.pointer (some ⟨gv,0,none⟩)) wq:=by rw [lM.out]
       have HK:=aa (And.intro hk (And.intro he hx));clear hk hx he;go_simp;exact HK.out
      ·intro Lq wq xq hh;have d4:j4 4 (xq 4) wq:=hh.val 4 (by kernel_rfl) (by kernel_rfl);rw [lM.out] at d4;simp only [j6,d4];clear d4;refine .inl ⟨rfl,?_⟩;unfold Reg.upon;have hc:kO Lq wq:=hh.cls;rw [j7.out] at hc;have q0:=((hc.2.1 (Mix.one_un (hh.notYet 9 (by kernel_rfl)))).keep.has o0.out (fun e=>by omega)).cell 0 _ rfl;clear hc;have hk:=kw.out 5 Lq wq (by decide) (by decide) (by decide)  hh.cls;have hx:kU 5 wq wq:=kI.out wq;have he:j4 5 (.int .i64 (wd:Int)) wq:=by rw [lA.out]
       have HK:=aa (And.intro hk (And.intro he hx));clear hk hx he;go_simp;exact HK.out
      ·intro Lq wq xq hh;have d3:j4 3 (xq 3) wq:=hh.val 3 (by kernel_rfl) (by kernel_rfl);rw [lq.out] at d3;have d5:j4 5 (xq 5) wq:=hh.val 5 (by kernel_rfl) (by kernel_rfl);rw [lA.out] at d5;simp only [j6,d3,d5];clear d3 d5;refine .inl ⟨rfl,?_⟩;unfold Reg.upon;have hc:kO Lq wq:=hh.cls;rw [j7.out] at hc;have hb:=hc.1 hh.un;have hq:=f7 s0 g wd y1 e1 wq (HRk.out.below hb) ng o5;rw [HCC2.out] at hq;have n9:=hc.2.1 (Mix.one_un (hh.notYet 9 (by kernel_rfl)));have n11:=hc.2.2.1 (Mix.one_un (hh.notYet 11 (by kernel_rfl)));go_simp;refine hq.mono ?_;rintro e w2 ⟨v6,rfl,ho,hr,hu⟩;have hH:HeldE cellE (fun b=>wk.heap.size<=b) w2 v6 CL:=(ho.held (fun b h _=>h)).zone (fun b _ hz=>Nat.le_trans hb.size hz);have hF:kO (Lq.setIfInBounds 6 true) w2:=by
        rw [j7.out];refine ⟨fun e=>?_,fun _=>n9.trans hu,fun _=>n11.trans (hu.mono fun b _ e=>.inl e),fun _=>hr,fun e=>?_⟩
        ·rw [Mix.one_set (by rw [hh.size];decide)] at e;exact absurd e (by decide)
        ·rw [Mix.one_ne (by decide),Mix.one_un (hh.notYet 11 (by kernel_rfl))] at e;cases e
       exact ⟨_,rfl,hF,(by rw [lN.out];exact hH),(by rw [lE.out];exact hu.mono fun b _ e=>.inl e)⟩
      ·intro Lq wq xq hh;have d2:j4 2 (xq 2) wq:=hh.val 2 (by kernel_rfl) (by kernel_rfl);rw [lC.out] at d2;have d6:j4 6 (xq 6) wq:=hh.val 6 (by kernel_rfl) (by kernel_rfl);rw [lN.out] at d6;simp only [j6,d2];clear d2;refine .inl ⟨rfl,?_⟩;unfold Reg.upon;obtain ⟨a6,c6,e6⟩:=d6.len;rw [e6] at d6;rw [es rfl rfl e6];exact ⟨kw.out 7 Lq wq (by decide) (by decide) (by decide) hh.cls,(by rw [lF.out];exact ⟨_,rfl,d6⟩),kI.out _⟩
      ·intro Lq wq xq hh;have d7:j4 7 (xq 7) wq:=hh.val 7 (by kernel_rfl) (by kernel_rfl);rw [lF.out] at d7;simp only [j6];refine .inl ⟨rfl,?_⟩;unfold Reg.upon;have hc:kO Lq wq:=hh.cls;rw [j7.out] at hc;have n9:=(hc.2.1 (Mix.one_un (hh.notYet 9 (by kernel_rfl)))).size;obtain ⟨v7,e7,h7⟩:=d7;obtain ⟨a7,c7,q7⟩:=h7.len;subst q7;rw [et rfl e7];have hb:=(Below.refl (wq).heap.size wq).alloc (Nat.le_refl _) (.cells [Value.slice a7 CL.length c7,.bool wp].toArray 69);refine ⟨kw.out 8 Lq _ (by decide) (by decide) (by decide) (Hrgqb.out Lq wq _ hh.cls hb),?_,Hrgqxb.out wq _ hb⟩;rw [lm.out];exact cq (E:=lineE) (w:=wq) (ty:=69) (Y:=fun b=>wk.heap.size<=b) (Z:=fun b=>wk.heap.size<=b) [.slice a7 CL.length c7,.bool wp] (CL,wp) (line_rep.2 ⟨_,rfl,h7⟩) (fun _ _ h=>h) n9
      ·intro Lq wq xq hh;have d1:j4 1 (xq 1) wq:=hh.val 1 (by kernel_rfl) (by kernel_rfl);rw [lK.out] at d1;have d8:j4 8 (xq 8) wq:=hh.val 8 (by kernel_rfl) (by kernel_rfl);rw [lm.out] at d8;simp only [j6,d1];clear d1;refine .inl ⟨rfl,?_⟩;unfold Reg.upon;have hc:kO Lq wq:=hh.cls;rw [j7.out] at hc;have rN:=hc.2.1 hh.un;have hc11:=hc.2.2.1 (Mix.one_un (hh.notYet 11 (by kernel_rfl)));have hc6:=hc.2.2.2.1 (hh.isDone 6 (by kernel_rfl));have how:=ns.out.upd rN (fun b hb e=>by rcases hb with hb | hb;(have hb:gv<b:=hb;have e:b=g:=e;omega);(have:=(ns.out.lt b hb).1;have e:b=g:=e;omega));obtain ⟨v',w',hr,h1,h2,h3,h4⟩:=cF (P:=Tryd.prog) (E:=lineE) (Z:=fun b=>gv<b) (w:=wq) (B:=gv+1) (ty:=69) 29 _ (.agg #[.slice none 0 0,.bool false]) 32 Tryd.underlying29 gY rfl (by decide) how (d8.zone (Y:=fun b=>gv<b/\(Value.slice ao n cap).ownBlock≠some b) (fun b _ hz=>⟨by have hz:wk.heap.size<=b:=hz;omega,fun e=>by have hz:wk.heap.size<=b:=hz;have:=(ns.out.lt b e).2;omega⟩)) (by rw [<-l1.out];simp;omega) (by rw [<-l1.out];simp;omega) (by have:=rN.size;omega);have hu:Upd (fun b=>(Value.slice ao n cap).ownBlock=some b) wq w':=⟨h2.os,h2.tape,h2.output,h3.size,fun b hb hn=>h3.block b hb hn⟩;rw [ee rfl rfl rfl hr];refine ⟨?_,?_,?_⟩
       ·rw [j7.out];refine ⟨fun e=>?_,fun e=>?_,fun _=>hc11.trans (hu.mono fun b _ e=>.inr e),fun _=>hc6.upd hu (fun b e=>by have:=(ns.out.lt b e).1;omega),fun e=>?_⟩
        ·have:=hh.isDone 6 (by kernel_rfl);rw [Mix.one_ne (by decide),this] at e;cases e
        ·rw [Mix.one_set (by rw [hh.size];decide)] at e;exact absurd e (by decide)
        ·rw [Mix.one_ne (by decide),Mix.one_un (hh.notYet 11 (by kernel_rfl))] at e;cases e
       ·rw [l2.out];exact h1
       ·rw [lE.out];exact hu
      ·intro Lq wq xq hh;simp only [j6];refine .inl ⟨rfl,?_⟩;unfold Reg.upon;have hk:=kw.out 10 Lq wq (by decide) (by decide) (by decide)  hh.cls;have hx:kU 10 wq wq:=kI.out wq;have he:j4 10 (.pointer (some ⟨gv,2,none⟩)) wq:=by rw [kK.out]
       have HK:=aa (And.intro hk (And.intro he hx));clear hk hx he;go_simp;exact HK.out
      ·intro Lq wq xq hh;have d9:j4 9 (xq 9) wq:=hh.val 9 (by kernel_rfl) (by kernel_rfl);rw [l2.out] at d9;have d10:j4 10 (xq 10) wq:=hh.val 10 (by kernel_rfl) (by kernel_rfl);rw [kK.out] at d10;simp only [j6,d10];clear d10;refine .inl ⟨rfl,?_⟩;unfold Reg.upon;have hc:kO Lq wq:=hh.cls;rw [j7.out] at hc;have rN:=hc.2.2.1 hh.un;obtain ⟨a5,c5,e5⟩:=(d9.held (fun _ h _=>h)).len;have hrow:=rN.keep.has o0.out (fun e=>by rcases e with e | e;omega;have:=(ns.out.lt _ e).1;omega);have hcel:=hrow.cell 2 _ rfl;have hfre:=hrow.free 2;have hset:=hrow.set 2 (xq 9);have sz:=(Upd.refl (fun b=>b=gv) wq).setCell (p:=⟨gv,2,none⟩) (.inl rfl) (xq 9);have mD:=d9.upd sz (fun b hb e=>by have e:b=gv:=e;rcases hb with hb | hb;(have hb:gv<b:=hb;omega);(have:=(d9.lt b hb).1;omega));have hr3:=(hc.2.2.2.1 (hh.isDone 6 (by kernel_rfl))).upd sz (fun b e=>by have e:b=gv:=e;omega);have nx:=(rN.mono (T:=fun b=>b=g\/b=gv\/(Value.slice ao n cap).ownBlock=some b) (fun b _ e=>by rcases e with e | e;exact .inl e;exact .inr (.inr e))).trans (sz.mono (fun b _ e=>.inr (.inl e)));rw [e5] at hset sz hr3 nx;rw [e5] at mD;rw [ew (b:=gv) (off:=2) rfl rfl e5 _ hcel hfre (by kernel_rfl)];refine ⟨?_,by rw [lh.out],by rw [lE.out];exact sz.mono fun b _ e=>.inr e⟩;rw [j7.out];refine ⟨fun e=>?_,fun e=>?_,fun e=>?_,fun _=>hr3,fun _=>⟨⟨_,hset,mD⟩,nx⟩⟩
       ·have:=hh.isDone 6 (by kernel_rfl);rw [Mix.one_ne (by decide),this] at e;cases e
       ·have:=hh.isDone 9 (by kernel_rfl);rw [Mix.one_ne (by decide),this] at e;cases e
       ·rw [Mix.one_set (by rw [hh.size];decide)] at e;exact absurd e (by decide)
     intro xq m4 hcrgq hvrgq;rw [j7.out] at hcrgq;simp only [j6];clear hvrgq j6 kw kI m0 Hrgqc j7 lE Hrgqb Hrgqxb lG lK lC lq lM lA lN lF lm l2 kK lh;obtain ⟨_,_,_,k4,k5⟩:=hcrgq;have k4:=k4 (by kernel_rfl);obtain ⟨⟨v,k5,k6⟩,k7⟩:=k5 (by kernel_rfl);have HUx:=aa (show Upd (fun b=>b=g) w m4 from ⟨rp.out.os.symm ▸ k7.os,rp.out.tape.symm ▸ k7.tape,rp.out.output.symm ▸ k7.output,Nat.le_trans rp.out.size k7.size,fun b hb hn=>(k7.block b (by have:=rp.out.size;omega) (fun e=>by
      rcases e with e | e | e
      ·exact hn e
      ·have:=no.out;omega
      ·have:=(ns.out.lt b e).1;have:=no.out;omega)).trans (rp.out.block b hb hn)⟩)
     have hgr2:=k7.keep.has HGRk.out (fun e=>by
      rcases e with e | e | e
      ·omega
      ·omega
      ·have:=(ns.out.lt _ e).1;omega)
     obtain ⟨a2,c2,ev⟩:=(k6.held (fun _ h _=>h)).len;obtain ⟨A2,pT⟩:=ab (A++[(CL,wp)]);have hl2:A2.length=i+1:=by rw [pT,List.length_append,List.length_singleton,l1.out]
     rw [<-pT] at ev k6 tA;rw [hl2] at ev;subst ev;have hszx:gv<m4.heap.size:=k5.lt;have HF:=aa (show i+1=i+1/\i+1=A2.length/\fZ wd (hg - (i+1)) A2 y2 e2=R/\y2.length<=1000000/\(e2=false->wd<=1024/\hg<=1024)/\Has m4 gr [Value.int .i64 0,.int .i64 0,.slice none 0 0,.int .i64 0,.int .i64 0,.bool false,.bool false] 44/\Has m4 gv [Value.int .i64 (wd:Int),.int .i64 (hg:Int),.slice a2 (i+1) c2,.int .i64 (rr:Int),.int .i64 (cc:Int),.bool pd,.bool au] 44/\OwnE lineE (fun b=>gv<b) m4 (gv+1) 69 (.slice a2 (i+1) c2) A2/\RdAt s0 m4 g y2 e2/\Upd (fun b=>b=g) w m4 from ⟨rfl,hl2.symm,tA.out,hy2,fun _=>⟨o5,hhm⟩,hgr2,k5,k6,k4,HUx.out⟩);clear k4 k5 k6 k7 hgr2 pT hl2;go_wp2
     go_roundw
     case rel=>exact ⟨i+1,i+1,c2,a2,A2,y2,e2,by first | rfl | go_num,by omega,hszx,HF⟩
     case measure=>simp [intOf] <;> omega
    |false =>
     have sn:=aa (show R=(A,ys,bd) from by
      rw [<-HS.out.2.2.1];have ht:=j9.out
      by_cases hlt:i<hg
      ·rw [decide_eq_true hlt] at ht;have hb:bd=true:=by cases bd;exact absurd ht (by decide);rfl
       subst hb
       cases hg - i with
       |zero=>rfl
       |succ f=>exact if_pos rfl
      ·rw [show hg - i=0 from by omega];rfl)
     have pG:=aa (show bQ xs=(⟨wd,hg,A,rr,cc,pd,au⟩,ys,bd) from by
      unfold bQ;simp only [HE.out];rw [<-q8.out,sn.out,sV.out,HAU.out]
      rfl)
     have hgrq:=HS.out.2.2.2.2.2.1;have hgvq:=HS.out.2.2.2.2.2.2.1;have HF:=aa (And.intro HS.out.2.2.2.2.2.2.2.1 (And.intro HS.out.2.2.2.2.2.2.2.2.1 HS.out.2.2.2.2.2.2.2.2.2));clear HS j9 sn
     go_upto_region 13 with (fail)
     go_wp2_with (first | (refine aV rfl 44 (.tmp 3) rfl gv rfl 44 _ _ 7 hgvq Tryd.underlying44 rfl aN rfl ?_) | (refine ct rfl 44 (.tmp 2) (.tmp 74) rfl gr rfl 44 [Value.int .i64 0,.int .i64 0,.slice none 0 0,.int .i64 0,.int .i64 0,.bool false,.bool false] [Value.int .i64 (wd:Int),.int .i64 (hg:Int),.slice ao n cap,.int .i64 (rr:Int),.int .i64 (cc:Int),.bool pd,.bool au] 7 rfl hgrq aN rfl rfl (by simp [Value.oneCell']) ?_;intro wz hz oF))
     obtain ⟨hO,hRD,hU⟩:=HF.out;have qe:Upd (fun b=>b=gr) wq wz:=⟨oF.os,oF.tape,oF.output,oF.size,fun b hb hn=>oF.block b hb hn⟩;have l7:Upd (fun b=>b=g) w wz:=⟨hU.os.symm ▸ qe.os,hU.tape.symm ▸ qe.tape,hU.output.symm ▸ qe.output,Nat.le_trans hU.size qe.size,fun b hb hn=>(qe.block b (by have:=hU.size;omega) (fun e=>by have e:b=gr:=e;have:=no.out;omega)).trans (hU.block b hb hn)⟩;have hhz:HeldE lineE (fun b=>w.heap.size<=b) wz (.slice ao n cap) A:=((hO.held (fun _ h _=>h)).zone (Y:=fun b=>w.heap.size<=b/\b≠gr) (fun b _ h=>by have h:gv<b:=h;have:=no.out;constructor <;> omega)).upd qe (fun b hb e=>hb.2 e) |>.zone (fun b _ h=>h.1)
     have hrz:=hRD.upd qe (fun b e=>by have e:b=gr:=e;omega);exact bodyPost_ret (v:=.agg [Value.int .i64 (wd:Int),.int .i64 (hg:Int),.slice ao n cap,.int .i64 (rr:Int),.int .i64 (cc:Int),.bool pd,.bool au].toArray) (fI Tryd.results55 _ _ gr 44 [Value.int .i64 (wd:Int),.int .i64 (hg:Int),.slice ao n cap,.int .i64 (rr:Int),.int .i64 (cc:Int),.bool pd,.bool au] _ 7 rfl hz Tryd.underlying44 rfl aN rfl) rfl ⟨.slice ao n cap,by rw [pG.out];rfl,by rw [pG.out];exact hhz,by rw [pG.out];exact hrz,l7,by rw [pG.out];exact ⟨Int.natCast_nonneg _,by show (wd:Int)<2097152;omega,Int.natCast_nonneg _,by show (hg:Int)<2097152;omega⟩⟩
end Go.Proofs.YtechjomepdahiaaDoor
