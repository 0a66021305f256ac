import Derived.Test.YtechjomepdahiaaDoorZ0
import Derived.Test.YtechjomepdahiaaDoorWirI
set_option maxRecDepth 100000
set_option linter.unusedVariables false
set_option linter.unusedSimpArgs false
set_option maxHeartbeats 4000000
namespace Go.Proofs.YtechjomepdahiaaDoor
open Go.RowKit Go.ChangeShapes Go.WideShapes
def g8(wd:Nat):Nat->List Ln->List Int->Bool->List Ln × List Int × Bool
 | 0,A,xs,bad=>(A,xs,bad)
 | k+1,A,xs,bad=>if bad=true then (A,xs,bad) else g8 wd k (A++[((cn wd wd [] (ay xs bad).2.1 (ay xs bad).2.2).1,decide ((ay xs bad).1=1))]) (cn wd wd [] (ay xs bad).2.1 (ay xs bad).2.2).2.1 (cn wd wd [] (ay xs bad).2.1 (ay xs bad).2.2).2.2
def jJ(xs:List Int):Nat × Nat × Nat × Nat × Int × List Int × Bool :=
 let m:=ay xs false
 let w:=al 3 0 1 m.2.1 (m.2.2 || !(m.1 == 76))
 let h:=al 3 0 1 w.2.1 w.2.2
 let r:=al 3 0 1 h.2.1 h.2.2
 let c:=al 3 0 1 r.2.1 r.2.2
 let f:=ay c.2.1 c.2.2
 (w.1,h.1,r.1,c.1,f.1,f.2.1,f.2.2 || !(decide (w.1<=1024) && decide (h.1<=1024)))
def bY(xs:List Int):Vw × List Int × Bool :=
 let H:=jJ xs
 let l:=g8 H.1 H.2.1 [] H.2.2.2.2.2.1 H.2.2.2.2.2.2
 (⟨H.1,H.2.1,l.1,H.2.2.1,H.2.2.2.1,decide (H.2.2.2.2.1.toNat % 2=1),decide (H.2.2.2.2.1.toNat / 2 % 2=1)⟩,l.2.1,l.2.2)
theorem kr(x:Nat)(h:x<=255):bits .and .u8 (x:Int) 1=((x % 2:Nat):Int):=by
 have key:∀ x:Nat,x<256->bits .and .u8 (x:Int) 1=((x % 2:Nat):Int):=by decide +kernel
 exact key x (by omega)
theorem and_two(x:Nat)(h:x<=255):bits .and .u8 (x:Int) 2=((x / 2 % 2 * 2:Nat):Int):=by
 have key:∀ x:Nat,x<256->bits .and .u8 (x:Int) 2=((x / 2 % 2 * 2:Nat):Int):=by decide +kernel
 exact key x (by omega)
theorem jK:∀ (f wd:Nat) (A:List Cl) (xs:List Int) (bad:Bool),(cn wd f A xs bad).2.1.length<=xs.length/\((cn wd f A xs bad).1.length<=max A.length (wd+1)):=by
 have ins:∀ (f e:Nat) (A:List Cl) (xs:List Int) (bad:Bool),(bQ e f A xs bad).2.1.length<=xs.length/\(bQ e f A xs bad).1.length<=max A.length (e+1):=by
  intro f
  induction f with
  |zero=>intro e A xs bad;exact ⟨Nat.le_refl _,Nat.le_max_left _ _⟩
  |succ f ih =>
   intro e A xs bad;unfold bQ
   split
   next h =>
    have h1:=ih e (A++(bM xs bad).1) (bM xs bad).2.1 (bM xs bad).2.2;have h2:=ge xs bad;rw [List.length_append] at h1;exact ⟨Nat.le_trans h1.1 h2.2.2,by omega⟩
   next=>exact ⟨Nat.le_refl _,Nat.le_max_left _ _⟩
 intro f
 induction f with
 |zero=>intro wd A xs bad;exact ⟨Nat.le_refl _,Nat.le_max_left _ _⟩
 |succ f ih =>
  intro wd A xs bad;have hs:=bn 3 0 1 (xs:=xs) bad;unfold cn
  split
  next h =>
   split
   next=>exact ⟨hs,Nat.zero_le _⟩
   next hb =>
    have mi:ff wd A (al 3 0 1 xs bad).1=true:=by
     cases hq:ff wd A (al 3 0 1 xs bad).1 with
     | true=>rfl
     | false=>rw [hq] at hb;simp at hb
    unfold ff at mi;rw [Bool.and_eq_true,decide_eq_true_eq,decide_eq_true_eq] at mi
    split
    next =>
     have h1:=ih wd (A++List.replicate ((al 3 0 1 xs bad).1 / 2) zc) (al 3 0 1 xs bad).2.1 false;rw [List.length_append,List.length_replicate] at h1;exact ⟨Nat.le_trans h1.1 hs,by omega⟩
    next =>
     have h2:=ins ((al 3 0 1 xs bad).1 / 2) (A.length+(al 3 0 1 xs bad).1 / 2) A (al 3 0 1 xs bad).2.1 false;have h1:=ih wd (bQ (A.length+(al 3 0 1 xs bad).1 / 2) ((al 3 0 1 xs bad).1 / 2) A (al 3 0 1 xs bad).2.1 false).1 (bQ (A.length+(al 3 0 1 xs bad).1 / 2) ((al 3 0 1 xs bad).1 / 2) A (al 3 0 1 xs bad).2.1 false).2.1 ((bQ (A.length+(al 3 0 1 xs bad).1 / 2) ((al 3 0 1 xs bad).1 / 2) A (al 3 0 1 xs bad).2.1 false).2.2 || !decide ((bQ (A.length+(al 3 0 1 xs bad).1 / 2) ((al 3 0 1 xs bad).1 / 2) A (al 3 0 1 xs bad).2.1 false).1.length=A.length+(al 3 0 1 xs bad).1 / 2));exact ⟨Nat.le_trans h1.1 (Nat.le_trans h2.1 hs),by omega⟩
  next=>exact ⟨Nat.le_refl _,Nat.le_max_left _ _⟩
theorem eY{ρ:Operand->Value}{o:Oper}{w:World}{x y:Operand}{a:Option Addr}{n c:Nat}{p:Bool}(ho:o.op=.build 69 #[(1,x),(0,y)])(hx:ρ x=.bool p)(hy:ρ y=.slice a n c):(execOp ρ o).run Tryd.prog w=.ok (.value (.agg #[.slice a n c,.bool p])) w:=by
 unfold execOp
 simp [ho,hx,hy,go_sem]
theorem eZ{ρ:Operand->Value}{o:Oper}{w:World}{x:Operand}{a:Option Addr}{n c:Nat}{p:Bool}(ho:o.op=.buildSlice 29 1 #[(0,x)])(hx:ρ x=.agg #[.slice a n c,.bool p]):(execOp ρ o).run Tryd.prog w=.ok (.value (.slice (some ⟨w.heap.size,0,none⟩) 1 1)) (w.alloc (.cells [Value.slice a n c,.bool p].toArray 69)):=by
 unfold execOp
 simp [ho,hx,go_sem]
theorem aS:(Tryd.prog.info? 44).map (·.size)=some 7:=by kernel_rfl
theorem iS(s0 g:Nat)(xs:List Int)(w:World)(h:RdAt s0 w g xs false)(hl:xs.length<=1000000):Calls Tryd.prog 55 #[.pointer (some ⟨g,0,none⟩)] w (fun e w'=>∃ u,e=.returned (bo (bY xs).1 u)/\HeldE lineE (fun b=>w.heap.size<=b) w' u (bY xs).1.L/\RdAt s0 w' g (bY xs).2.1 (bY xs).2.2/\Upd (fun b=>b=g) w w'/\0<=(bY xs).1.w/\(bY xs).1.w<2097152/\0<=(bY xs).1.h/\(bY xs).1.h<2097152):=by
 have n6:=h.lt;obtain ⟨W1,hW1⟩:=ab (w.alloc (.cells [Value.int .i64 0,.int .i64 0,.slice none 0 0,.int .i64 0,.int .i64 0,.bool false,.bool false].toArray 44));have b1:Below w.heap.size w W1:=by rw [hW1];exact lD _ _
 have lF:Has W1 w.heap.size [Value.int .i64 0,.int .i64 0,.slice none 0 0,.int .i64 0,.int .i64 0,.bool false,.bool false] 44:=by rw [hW1];exact Has.new w _ _
 obtain ⟨W2,hW2⟩:=ab (W1.alloc (.cells [Value.int .i64 0,.int .i64 0,.slice none 0 0,.int .i64 0,.int .i64 0,.bool false,.bool false].toArray 44));have b2:Below W1.heap.size W1 W2:=by rw [hW2];exact lD _ _
 have nB:Has W2 W1.heap.size [Value.int .i64 0,.int .i64 0,.slice none 0 0,.int .i64 0,.int .i64 0,.bool false,.bool false] 44:=by rw [hW2];exact Has.new W1 _ _
 have lF:=lF.below b2 lF.lt;have s1:W1.heap.size=w.heap.size+1:=by rw [hW1];exact Array.size_push _
 have l5:=aa hW1.symm;have sK:=aa hW2.symm;obtain ⟨gr,hgr⟩:=ab (w.heap.size);obtain ⟨gv,m8⟩:=ab (W1.heap.size);rw [<-hgr] at lF;rw [<-m8] at nB;have nA:=aa hgr;have oq:=aa m8;have hgg:g<gr/\gr<gv:=by omega
 have HA:=aa (And.intro lF nB);have HR0:=aa ((h.below b1).below b2);have oE:=aa (show Upd (fun b=>b=g) w W2 from .ofBelow (b1.trans (b2.mono b1.size)));obtain ⟨m1,x1,d1,hm⟩ : ∃ a b c,ay xs false=(a,b,c):=⟨_,_,_,rfl⟩;obtain ⟨wd,x2,d2,hwd⟩ : ∃ a b c,al 3 0 1 x1 (d1 || !(m1 == 76))=(a,b,c):=⟨_,_,_,rfl⟩;obtain ⟨hg,x3,d3,uW⟩ : ∃ a b c,al 3 0 1 x2 d2=(a,b,c):=⟨_,_,_,rfl⟩;obtain ⟨rr,x4,d4,vq⟩ : ∃ a b c,al 3 0 1 x3 d3=(a,b,c):=⟨_,_,_,rfl⟩;obtain ⟨cc,x5,d5,hcc⟩ : ∃ a b c,al 3 0 1 x4 d4=(a,b,c):=⟨_,_,_,rfl⟩;obtain ⟨fl,x6,d6,l4⟩ : ∃ a b c,ay x5 d5=(a,b,c):=⟨_,_,_,rfl⟩;obtain ⟨d7,xv⟩:=ab ((d6 || !(decide (wd<=1024) && decide (hg<=1024))));have HE:=aa (show jJ xs=(wd,hg,rr,cc,fl,x6,d7) from by
  unfold jJ;simp only [hm,hwd,uW,vq,hcc,l4,xv])
 have tg:=aa xv;have hx6:x6.length<=1000000:=by
  have e1:=(dD (xs:=xs) false).1;have e2:=bn 3 0 1 (xs:=x1) (d1 || !(m1 == 76));have e3:=bn 3 0 1 (xs:=x2) d2;have e4:=bn 3 0 1 (xs:=x3) d3;have e5:=bn 3 0 1 (xs:=x4) d4;have e6:=(dD (xs:=x5) d5).1;rw [hm] at e1;rw [hwd] at e2;rw [uW] at e3;rw [vq] at e4;rw [hcc] at e5;rw [l4] at e6
  dsimp only at e1 e2 e3 e4 e5 e6
  omega
 have xl:=aa hwd;have xe:=aa uW;have td:=aa vq;have wO:=aa hcc;have od:=aa l4;have hgw1:=oq.out;have uO:gv=w.heap.size+1:=by rw [hgw1,s1]
 have HC:=aa (show Calls Tryd.prog 90 #[.pointer (some ⟨g,0,none⟩)] W2 (ek s0 g W2 (fun _ u=>u=.int .u8 m1) x1 d1) from by have:=cq s0 g xs false W2 HR0.out;rw [hm] at this;exact this);have qR:=aa uO.symm;clear hW1 b1 lF hW2 b2 nB s1 hgr m8 h hwd uW vq hcc l4 xv hm hgw1 uO
 go_enter Tryd.func55,Tryd.ntmps55
 go_upto_region 2 with (fail)
 rw [l5.out,sK.out,qR.out,<-nA.out]
 go_wp2_with fail
 refine (HC.out).mono ?_;rintro e w1 ⟨u1,rfl,rfl,hr1,nJ⟩;have uD:=aa (oE.out.trans nJ);have s8:=aa (And.intro (nJ.keep.has HA.out.1 (fun e=>by omega)) (nJ.keep.has HA.out.2 (fun e=>by omega)));have pX:=aa (bC s0 g x1 d1 (m1 == 76) w1 hr1);clear HC l5 sK qR oE HA HR0 hr1 nJ
 go_wp2_with fail
 refine (pX.out).mono ?_;rintro e w2 ⟨rfl,hr2,nx⟩;have ou:=aa (show Calls Tryd.prog 91 #[.pointer (some ⟨g,0,none⟩)] w2 (ek s0 g w2 (fun _ u=>u=.int .i64 (wd:Int)) x2 d2) from by have:=bi s0 g x1 (d1 || !(m1 == 76)) w2 hr2;rw [xl.out] at this;exact this);have hwl:wd<2097152:=by have:=cJ 3 0 1 x1 (d1 || !(m1 == 76)) hr2.2.1 (by decide);rw [xl.out] at this;exact this
 have pF:=aa (uD.out.trans nx);have pD:=aa (And.intro (nx.keep.has s8.out.1 (fun e=>by omega)) (nx.keep.has s8.out.2 (fun e=>by omega)));clear pX uD s8 xl hr2 nx
 go_wp2_with fail
 refine (ou.out).mono ?_;rintro e w3 ⟨u3,rfl,rfl,hr3,oH⟩;have HC3:=aa (show Calls Tryd.prog 91 #[.pointer (some ⟨g,0,none⟩)] w3 (ek s0 g w3 (fun _ u=>u=.int .i64 (hg:Int)) x3 d3) from by have:=bi s0 g x2 d2 w3 hr3;rw [xe.out] at this;exact this);have hhl:hg<2097152:=by have:=cJ 3 0 1 x2 d2 hr3.2.1 (by decide);rw [xe.out] at this;exact this
 have nz:=aa (pF.out.trans oH);have s9:=aa (And.intro (oH.keep.has pD.out.1 (fun e=>by omega)) (oH.keep.has pD.out.2 (fun e=>by omega)));clear ou pF pD xe hr3 oH
 go_wp2_with fail
 refine (HC3.out).mono ?_;rintro e w4 ⟨u4,rfl,rfl,hr4,pm⟩;have nF:=aa (And.intro (pm.keep.has s9.out.1 (fun e=>by omega)) (pm.keep.has s9.out.2 (fun e=>by omega)));obtain ⟨Wa,tU⟩:=ab ((w4.setCell ⟨gv,0,none⟩ (.int .i64 (wd:Int))).setCell ⟨gv,1,none⟩ (.int .i64 (hg:Int)));have ha:Upd (fun b=>b=gv) w4 Wa:=by rw [tU];exact ((Upd.refl (fun b=>b=gv) w4).setCell (p:=⟨gv,0,none⟩) (.inl rfl) _).setCell (p:=⟨gv,1,none⟩) (.inl rfl) _
 have wW:=aa (show Has Wa gr [Value.int .i64 0,.int .i64 0,.slice none 0 0,.int .i64 0,.int .i64 0,.bool false,.bool false] 44/\Has Wa gv [Value.int .i64 (wd:Int),.int .i64 (hg:Int),.slice none 0 0,.int .i64 0,.int .i64 0,.bool false,.bool false] 44 from ⟨ha.keep.has nF.out.1 (fun e=>by omega),by rw [tU];exact (nF.out.2.set 0 _).set 1 _⟩);have HUa:=aa (show Upd (fun b=>b=g) w Wa from by rw [tU];exact ((nz.out.trans pm).setCell (.inr (by show w.heap.size<=gv;have:=nA.out;omega)) _).setCell (.inr (by show w.heap.size<=gv;have:=nA.out;omega)) _);have ui:=hr4.upd ha (fun b e=>by omega);have HC4:=aa (show Calls Tryd.prog 91 #[.pointer (some ⟨g,0,none⟩)] Wa (ek s0 g Wa (fun _ u=>u=.int .i64 (rr:Int)) x4 d4) from by have:=bi s0 g x3 d3 Wa ui;rw [td.out] at this;exact this);have rZ:rr<2097152:=by have:=cJ 3 0 1 x3 d3 ui.2.1 (by decide);rw [td.out] at this;exact this
 have q0:=nF.out.2.cell 0 _ rfl;have q1:=nF.out.2.cell 1 _ rfl;have f0:=nF.out.2.free 0;have f1:=nF.out.2.free 1;have HWa:=aa tU.symm;clear HC3 nz s9 td hr4 pm nF tU ha ui
 go_wp2_with fail
 rw [HWa.out];refine HC4.out.mono ?_;rintro e w5 ⟨u5,rfl,rfl,vG,va⟩;have HC5:=aa (show Calls Tryd.prog 91 #[.pointer (some ⟨g,0,none⟩)] w5 (ek s0 g w5 (fun _ u=>u=.int .i64 (cc:Int)) x5 d5) from by have:=bi s0 g x4 d4 w5 vG;rw [wO.out] at this;exact this);have mL:cc<2097152:=by have:=cJ 3 0 1 x4 d4 vG.2.1 (by decide);rw [wO.out] at this;exact this
 have rL:=aa (HUa.out.trans va);have xt:=aa (And.intro (va.keep.has wW.out.1 (fun e=>by omega)) (va.keep.has wW.out.2 (fun e=>by omega)));clear HC4 HUa wW wO vG va HWa q0 q1 f0 f1
 go_wp2_with fail
 refine (HC5.out).mono ?_;rintro e w6 ⟨u6,rfl,rfl,sW,rn⟩;have rT:=aa (And.intro (rn.keep.has xt.out.1 (fun e=>by omega)) (rn.keep.has xt.out.2 (fun e=>by omega)));obtain ⟨Wb,tO⟩:=ab ((w6.setCell ⟨gv,3,none⟩ (.int .i64 (rr:Int))).setCell ⟨gv,4,none⟩ (.int .i64 (cc:Int)));have ha:Upd (fun b=>b=gv) w6 Wb:=by rw [tO];exact ((Upd.refl (fun b=>b=gv) w6).setCell (p:=⟨gv,3,none⟩) (.inl rfl) _).setCell (p:=⟨gv,4,none⟩) (.inl rfl) _
 have wI:=aa (show Has Wb gr [Value.int .i64 0,.int .i64 0,.slice none 0 0,.int .i64 0,.int .i64 0,.bool false,.bool false] 44/\Has Wb gv [Value.int .i64 (wd:Int),.int .i64 (hg:Int),.slice none 0 0,.int .i64 (rr:Int),.int .i64 (cc:Int),.bool false,.bool false] 44 from ⟨ha.keep.has rT.out.1 (fun e=>by omega),by rw [tO];exact (rT.out.2.set 3 _).set 4 _⟩);have HUb:=aa (show Upd (fun b=>b=g) w Wb from by rw [tO];exact ((rL.out.trans rn).setCell (.inr (by show w.heap.size<=gv;have:=nA.out;omega)) _).setCell (.inr (by show w.heap.size<=gv;have:=nA.out;omega)) _);have o1:=sW.upd ha (fun b e=>by omega);have HC6:=aa (show Calls Tryd.prog 90 #[.pointer (some ⟨g,0,none⟩)] Wb (ek s0 g Wb (fun _ u=>u=.int .u8 fl) x6 d6) from by have:=cq s0 g x5 d5 Wb o1;rw [od.out] at this;exact this);have hfb:0<=fl/\fl<=255:=by have:=cp o1.2.1 d5;rw [od.out] at this;exact this
 have q3:=rT.out.2.cell 3 _ rfl;have q4:=rT.out.2.cell 4 _ rfl;have f3:=rT.out.2.free 3;have f4:=rT.out.2.free 4;have HWb:=aa tO.symm;clear HC5 rL xt od sW rn rT tO ha o1
 go_wp2_with fail
 rw [HWb.out];refine HC6.out.mono ?_;rintro e w7 ⟨u7,rfl,rfl,hr7,u9⟩;have qi:=aa (HUb.out.trans u9);have sD:=aa (And.intro (u9.keep.has wI.out.1 (fun e=>by omega)) (u9.keep.has wI.out.2 (fun e=>by omega)));have HR7:=aa hr7;clear HC6 HUb wI hr7 u9 HWb q3 q4 f3 f4;obtain ⟨fn,hfn⟩ : ∃ fn:Nat,fl=(fn:Int):=⟨fl.toNat,by omega⟩;subst hfn;obtain ⟨p1,nJ⟩:=ab (fn % 2);obtain ⟨p2,nx⟩:=ab (fn / 2 % 2 * 2);have hb1:bits .and .u8 (fn:Int) 1=(p1:Int):=by rw [kr fn (by omega),nJ]
 have hb2:bits .and .u8 (fn:Int) 2=(p2:Int):=by rw [and_two fn (by omega),nx]
 obtain ⟨pd,ru⟩:=ab (decide (fn % 2=1));obtain ⟨au,xb⟩:=ab (decide (fn / 2 % 2=1));have nC:((p1:Int) != 0)=pd:=by
  rw [ru,<-nJ];have:p1=0\/p1=1:=by omega
  rcases this with h | h <;> rw [h] <;> decide
 have qS:((p2:Int) != 0)=au:=by
  rw [xb];have:fn / 2 % 2=0\/fn / 2 % 2=1:=by omega
  rw [nx]
  rcases this with h | h <;> rw [h] <;> decide
 have uT:=aa ru;have HAU:=aa xb;clear nJ nx ru xb;obtain ⟨Wc,t8⟩:=ab ((w7.setCell ⟨gv,5,none⟩ (.bool pd)).setCell ⟨gv,6,none⟩ (.bool au));have q5:=sD.out.2.cell 5 _ rfl;have q6:=sD.out.2.cell 6 _ rfl;have f5:=sD.out.2.free 5;have f6:=sD.out.2.free 6
 go_upto_region 7 with (fail)
 have ha:Upd (fun b=>b=gv) w7 Wc:=by rw [t8];exact ((Upd.refl (fun b=>b=gv) w7).setCell (p:=⟨gv,5,none⟩) (.inl rfl) _).setCell (p:=⟨gv,6,none⟩) (.inl rfl) _
 have tY:=aa (show Has Wc gr [Value.int .i64 0,.int .i64 0,.slice none 0 0,.int .i64 0,.int .i64 0,.bool false,.bool false] 44/\Has Wc gv [Value.int .i64 (wd:Int),.int .i64 (hg:Int),.slice none 0 0,.int .i64 (rr:Int),.int .i64 (cc:Int),.bool pd,.bool au] 44 from ⟨ha.keep.has sD.out.1 (fun e=>by omega),by rw [t8];exact (sD.out.2.set 5 _).set 6 _⟩);have HUc:=aa (show Upd (fun b=>b=g) w Wc from by rw [t8];exact (qi.out.setCell (.inr (by show w.heap.size<=gv;have:=nA.out;omega)) _).setCell (.inr (by show w.heap.size<=gv;have:=nA.out;omega)) _);have vJ:=aa (HR7.out.upd ha (fun b e=>by omega));rw [<-t8];clear qi sD HR7 q5 q6 f5 f6 t8 ha hb1 hb2 nC qS
 go_cut [46] from 37 to 46 (fun tv wx=>Hid (RdAt s0 wx g x6 d7/\Upd (fun b=>b=g) Wc wx))
 case first =>
  have q0:=tY.out.2.cell 0 _ rfl;have q1:=tY.out.2.cell 1 _ rfl
  by_cases hw:wd<=1024
  ·have d1:decide ((wd:Int)<=1024)=true:=ag (by omega);have d1n:decide (wd<=1024)=true:=ag (by omega);have d2:decide ((hg:Int)<=1024)=decide (hg<=1024):=decide_eq_decide.2 (by omega);have pe:=aa (bC s0 g x6 d6 (decide (hg<=1024)) Wc vJ.out);rw [<-d2] at pe;have wR:=aa (show d7=(d6 || !(decide ((hg:Int)<=1024))) from by rw [tg.out,d1n,d2,Bool.true_and]);clear hw tg d2
   go_wp2_with fail
   refine pe.out.mono ?_;rintro e w8 ⟨rfl,tu,ur⟩;have HF:=aa (show RdAt s0 w8 g x6 d7/\Upd (fun b=>b=g) Wc w8 from ⟨by rw [wR.out];exact tu,ur⟩);clear tu ur;go_wp2;go_meet
   case rel=>exact HF
  ·have d1:decide ((wd:Int)<=1024)=false:=ah (by omega);have d1n:decide (wd<=1024)=false:=ah (by omega);have pe:=aa (bC s0 g x6 d6 false Wc vJ.out);have wR:=aa (show d7=(d6 || !false) from by rw [tg.out,d1n,Bool.false_and]);clear hw tg
   go_wp2_with fail
   refine pe.out.mono ?_;rintro e w8 ⟨rfl,tu,ur⟩;have HF:=aa (show RdAt s0 w8 g x6 d7/\Upd (fun b=>b=g) Wc w8 from ⟨by rw [wR.out];exact tu,ur⟩);clear tu ur;go_wp2;go_meet
   case rel=>exact HF
 case rest =>
  have HLIM:=aa (show d7=false->wd<=1024/\hg<=1024 from fun h=>by
   have:=tg.out.symm;rw [h,Bool.or_eq_false_iff] at this;have h2:=this.2;rw [Bool.not_eq_false',Bool.and_eq_true,decide_eq_true_eq,decide_eq_true_eq] at h2;exact h2)
  obtain ⟨w8,hw8⟩:=ab (wc);subst hw8;have HR8:=aa hcut.out.1;have HU8:=aa (HUc.out.trans hcut.out.2);have uP:=aa (And.intro (hcut.out.2.keep.has tY.out.1 (fun e=>by omega)) (hcut.out.2.keep.has tY.out.2 (fun e=>by omega)));have hsz8:=uP.out.2.lt;clear hcut vJ HUc tY tg;obtain ⟨R,hR⟩:=ab (g8 wd hg [] x6 d7);have td:=aa hR;clear hR;go_wp2
  go_loopw [5] (fun cv wr=>∃ (i n cap:Nat) (ao:Option Addr) (A:List Ln) (ys:List Int) (bd:Bool),cv=.int .i64 (i:Int)/\i<=hg/\gv<wr.heap.size/\Hid (n=i/\i=A.length/\g8 wd (hg - i) A ys bd=R/\ys.length<=1000000/\(bd=false->wd<=1024/\hg<=1024)/\Has wr gr [Value.int .i64 0,.int .i64 0,.slice none 0 0,.int .i64 0,.int .i64 0,.bool false,.bool false] 44/\Has wr gv [Value.int .i64 (wd:Int),.int .i64 (hg:Int),.slice ao n cap,.int .i64 (rr:Int),.int .i64 (cc:Int),.bool pd,.bool au] 44/\OwnE lineE (fun b=>gv<b) wr (gv+1) 69 (.slice ao n cap) A/\RdAt s0 wr g ys bd/\Upd (fun b=>b=g) w wr)) (fun cv _=>hg - (intOf cv).toNat)
  case atStart=>exact ⟨0,0,0,none,[],x6,d7,rfl,Nat.zero_le _,hsz8,aa ⟨rfl,rfl,td.out.symm,hx6,HLIM.out,uP.out.1,uP.out.2,OwnE.nil _ _ _ _ _,HR8.out,HU8.out⟩⟩
  case round =>
   clear HR8 HU8 uP hsz8 HLIM;obtain ⟨i,n,cap,ao,A,ys,bd,rfl,hih,hszr,HS⟩:=hrel;obtain ⟨wo,qC⟩:=ab (wr);subst qC;obtain ⟨tt,o4⟩:=ab ((decide (i<hg) && !bd));have lM:=aa o4;clear o4
   go_upto_region 9 with (fail)
   go_cut [57] from 47 to 57 (fun tv wx=>tv=.bool tt/\wx=wo)
   case first =>
    obtain ⟨_,_,rv,hh,_⟩:=HS.out.2.2.2.2.2.2.2.2.1;have q1:=hh.cell 1 _ rfl;have c1:=HS.out.2.2.2.2.2.2.1.cell 1 _ rfl
    by_cases hlt:i<hg
    ·have d1:decide ((i:Int)<(hg:Int))=true:=ag (by omega);have d1n:decide (i<hg)=true:=ag (by omega);have d2:(i:Int)<(hg:Int):=by omega
     have e:tt = !bd:=by rw [lM.out,d1n,Bool.true_and]
     subst e;clear lM hlt hh;go_wp2;go_meet
     case rel=>exact ⟨rfl,rfl⟩
    ·have d1:decide ((i:Int)<(hg:Int))=false:=ah (by omega);have d1n:decide (i<hg)=false:=ah (by omega);have d2:¬ (i:Int)<(hg:Int):=by omega
     have e:tt=false:=by rw [lM.out,d1n,Bool.false_and]
     subst e;clear lM hlt hh;go_wp2;go_meet
     case rel=>exact ⟨rfl,rfl⟩
   case rest =>
    obtain ⟨rfl,rfl⟩:=hcut;obtain ⟨wq,ns⟩:=ab (wc);subst ns;have HNI:=aa HS.out.1
    cases tt with
    |true =>
     have uh:i<hg/\bd=false:=by
      have:=lM.out.symm;rw [Bool.and_eq_true,decide_eq_true_eq] at this;exact ⟨this.1,by cases bd;rfl;exact absurd this.2 (by decide)⟩
     obtain ⟨hlt,mI⟩:=uh;subst mI;obtain ⟨qK,hhm⟩:=HS.out.2.2.2.2.1 rfl;obtain ⟨m2,y1,e1,qe⟩ : ∃ a b c,ay ys false=(a,b,c):=⟨_,_,_,rfl⟩;obtain ⟨CL,y2,e2,pf⟩ : ∃ a b c,cn wd wd [] y1 e1=(a,b,c):=⟨_,_,_,rfl⟩;obtain ⟨wp,sx⟩:=ab (decide (m2=1));have xf:(m2 == 1)=wp:=by
      rw [sx]
      by_cases h:m2=1
      ·rw [h];decide
      ·rw [decide_eq_false h,beq_eq_false_iff_ne];exact h
     have oZ:y1.length<=1000000:=by
      have e1:=(dD (xs:=ys) false).1;rw [qe] at e1;exact Nat.le_trans e1 HS.out.2.2.2.1
     have hcs:=jK wd wd [] y1 e1;rw [pf] at hcs;have hy2:y2.length<=1000000:=Nat.le_trans hcs.1 oZ;have vd:=aa (show g8 wd (hg - (i+1)) (A++[(CL,wp)]) y2 e2=R from by
      have h:=HS.out.2.2.1;rw [show hg - i=(hg - (i+1))+1 from by omega] at h;unfold g8 at h;rw [if_neg (by decide)] at h;simp only [qe,pf] at h;rw [sx];exact h)
     have HCO:=aa (show Calls Tryd.prog 90 #[.pointer (some ⟨g,0,none⟩)] wq (ek s0 g wq (fun _ u=>u=.int .u8 m2) y1 e1) from by have:=cq s0 g ys false wq HS.out.2.2.2.2.2.2.2.2.1;rw [qe] at this;exact this);have HCC2:=aa pf;clear sx hcs qe pf lM
     go_wp2_with fail
     refine HCO.out.mono ?_;rintro e wk ⟨u1,rfl,rfl,oQ,tP⟩;have nT:=aa HS.out.2.1;have sV:=aa (HS.out.2.2.2.2.2.2.2.2.2.trans tP);have HRk:=aa oQ;have HGRk:=aa (tP.keep.has HS.out.2.2.2.2.2.1 (fun e=>by omega));have qQ:=aa (tP.keep.has HS.out.2.2.2.2.2.2.1 (fun e=>by omega));have ph:=aa (HS.out.2.2.2.2.2.2.2.1.upd tP (fun b hb e=>by
      rcases hb with hb | hb
      ·omega
      ·have:=(HS.out.2.2.2.2.2.2.2.1.lt b hb).1;omega))
     have rY:gv<wk.heap.size:=qQ.out.lt;clear HS oQ tP HCO
     go_upto_region 12 with (fail)
     obtain ⟨lH,lN⟩ : ∃ EE:Nat->Value->World->Prop,EE=fun jj xx ww=>match jj with
       |0=>xx=.pointer (some ⟨gv,2,none⟩)
       |1=>xx=.slice ao n cap
       |2=>xx=.bool wp
       |3=>xx=.pointer (some ⟨g,0,none⟩)
       |4=>xx=.pointer (some ⟨gv,0,none⟩)
       |5=>xx=.int .i64 (wd:Int)
       |6=>(fun x w'=>HeldE cellE (fun b=>wk.heap.size<=b) w' x CL) xx ww
       |7=>(fun x w'=>∃ v,x=.agg #[v,.bool wp]/\HeldE cellE (fun b=>wk.heap.size<=b) w' v CL) xx ww
       |8=>(fun x w'=>HeldE lineE (fun b=>wk.heap.size<=b) w' x [(CL,wp)]) xx ww
       |9=>(fun x w'=>OwnE lineE (fun b=>gv<b) w' (gv+1) 69 x (A++[(CL,wp)])) xx ww
       |10=>xx=.pointer (some ⟨gv,2,none⟩)
       |11=>xx=undef
       |_=>True:=⟨_,rfl⟩
     have ergq0:∀ xx ww,lH 0 xx ww=(xx=.pointer (some ⟨gv,2,none⟩)):=fun xx ww=>congrFun (congrFun (congrFun lN 0) xx) ww
     have ergq1:∀ xx ww,lH 1 xx ww=(xx=.slice ao n cap):=fun xx ww=>congrFun (congrFun (congrFun lN 1) xx) ww
     have ergq2:∀ xx ww,lH 2 xx ww=(xx=.bool wp):=fun xx ww=>congrFun (congrFun (congrFun lN 2) xx) ww
     have ergq3:∀ xx ww,lH 3 xx ww=(xx=.pointer (some ⟨g,0,none⟩)):=fun xx ww=>congrFun (congrFun (congrFun lN 3) xx) ww
     have ergq4:∀ xx ww,lH 4 xx ww=(xx=.pointer (some ⟨gv,0,none⟩)):=fun xx ww=>congrFun (congrFun (congrFun lN 4) xx) ww
     have ergq5:∀ xx ww,lH 5 xx ww=(xx=.int .i64 (wd:Int)):=fun xx ww=>congrFun (congrFun (congrFun lN 5) xx) ww
     have ergq6:∀ xx ww,lH 6 xx ww=((fun x w'=>HeldE cellE (fun b=>wk.heap.size<=b) w' x CL) xx ww):=fun xx ww=>congrFun (congrFun (congrFun lN 6) xx) ww
     have ergq7:∀ xx ww,lH 7 xx ww=((fun x w'=>∃ v,x=.agg #[v,.bool wp]/\HeldE cellE (fun b=>wk.heap.size<=b) w' v CL) xx ww):=fun xx ww=>congrFun (congrFun (congrFun lN 7) xx) ww
     have ergq8:∀ xx ww,lH 8 xx ww=((fun x w'=>HeldE lineE (fun b=>wk.heap.size<=b) w' x [(CL,wp)]) xx ww):=fun xx ww=>congrFun (congrFun (congrFun lN 8) xx) ww
     have ergq9:∀ xx ww,lH 9 xx ww=((fun x w'=>OwnE lineE (fun b=>gv<b) w' (gv+1) 69 x (A++[(CL,wp)])) xx ww):=fun xx ww=>congrFun (congrFun (congrFun lN 9) xx) ww
     have ergq10:∀ xx ww,lH 10 xx ww=(xx=.pointer (some ⟨gv,2,none⟩)):=fun xx ww=>congrFun (congrFun (congrFun lN 10) xx) ww
     have ergq11:∀ xx ww,lH 11 xx ww=(xx=undef):=fun xx ww=>congrFun (congrFun (congrFun lN 11) xx) ww
     obtain ⟨mr,ol⟩ : ∃ CC:Array Bool->World->Prop,CC=fun L w'=>(Mix.one L 6=0->Below wk.heap.size wk w')/\(Mix.one L 9=0->Upd (fun b=>b=g) wk w')/\(Mix.one L 11=0->Upd (fun b=>b=g\/(Value.slice ao n cap).ownBlock=some b) wk w')/\(Mix.one L 6=1->RdAt s0 w' g y2 e2)/\(Mix.one L 11=1->(∃ v,Has w' gv [Value.int .i64 (wd:Int),.int .i64 (hg:Int),v,.int .i64 (rr:Int),.int .i64 (cc:Int),.bool pd,.bool au] 44/\OwnE lineE (fun b=>gv<b) w' (gv+1) 69 v (A++[(CL,wp)]))/\Upd (fun b=>b=g\/b=gv\/(Value.slice ao n cap).ownBlock=some b) wk w'):=⟨_,rfl⟩
     have krgq:∀ i L w,i≠6->i≠9->i≠11 ->  mr L w->mr (L.setIfInBounds i true) w:=by
      intro i L w q6 q9 q11 h;rw [ol] at h ⊢;simp only [Mix.one_ne q6,Mix.one_ne q9,Mix.one_ne q11];exact h
     obtain ⟨mB,o6⟩ : ∃ XX:Nat->World->World->Prop,XX=fun kk ww1 ww2=>if kk=9 then (fun x y=>Upd (fun b=>(Value.slice ao n cap).ownBlock=some b) x y) ww1 ww2 else (fun x y=>Upd (fun b=>b=g\/b=gv) x y) ww1 ww2:=⟨_,rfl⟩
     have xrgq:∀ {k:Nat} (w:World),mB k w w:=by
      intro k w;rw [o6];show if k=9 then _ else _
      split
      ·exact Upd.refl _ _
      ·exact Upd.refl _ _
     have crgq:mr (Array.replicate 12 false) wk.drew:=by rw [ol];exact ⟨fun _=>(Below.refl _ _).drew,fun _=>(Upd.refl _ _).drew,fun _=>(Upd.refl _ _).drew,fun e=>absurd e (by decide),fun e=>absurd e (by decide)⟩
     have brgq:∀ L w w1,mr L w->Below w.heap.size w w1->mr L w1:=by
      intro L w w1 h hb;rw [ol] at h ⊢
      (obtain ⟨q1,q2,q3,q4,q5⟩:=h;exact ⟨fun e=>(q1 e).trans (hb.mono (q1 e).size),fun e=>(q2 e).trans (.ofBelow hb),fun e=>(q3 e).trans (.ofBelow hb),fun e=>(q4 e).below hb,fun e=>by obtain ⟨⟨v,a1,a2⟩,a3⟩:=q5 e;exact ⟨⟨v,a1.below hb a1.lt,a2.below hb⟩,a3.trans (.ofBelow hb)⟩⟩)
     have xbrgq:∀ {k:Nat} (w w1:World),Below w.heap.size w w1->mB k w w1:=by
      intro k w w1 hb;rw [o6];show if k=9 then _ else _
      split
      ·exact Upd.ofBelow hb
      ·exact Upd.ofBelow hb
     have Hrgqb:=aa brgq;have Hrgqxb:Hid (∀ {k:Nat} (w w1:World),Below w.heap.size w w1->mB k w w1):=@xbrgq;clear brgq xbrgq;have oO:=aa lN;clear lN;have ma:=aa krgq;have ml:Hid (∀ {k:Nat} (w:World),mB k w w):=@xrgq;have Hrgqc:=aa crgq;have lL:=aa ol;have mM:=aa o6;have nq:=aa ergq0;have m4:=aa ergq1;have mN:=aa ergq2;have m9:=aa ergq3;have m5:=aa ergq4;have mW:=aa ergq5;have m7:=aa ergq6;have mX:=aa ergq7;have no:=aa ergq8;have nO:=aa ergq9;have mn:=aa ergq10;have mH:=aa ergq11;clear krgq xrgq crgq ol o6 ergq0 ergq1 ergq2 ergq3 ergq4 ergq5 ergq6 ergq7 ergq8 ergq9 ergq10 ergq11
     go_wp2_with fail
     refine RegX.regionF lH mr mB ?_ (by kernel_rfl) (by kernel_rfl) (by kernel_rfl) Hrgqc.out (fun Frgq lJ=>?_)
     ·intro ii jj x w w1 ny hr hx h;rw [mM.out] at hx
      by_cases hi:ii=9
      ·subst hi;simp only [if_pos] at hx
       match jj with
       |0=>rw [nq.out] at h ⊢;exact h
       |1=>rw [m4.out] at h ⊢;exact h
       |2=>rw [mN.out] at h ⊢;exact h
       |3=>rw [m9.out] at h ⊢;exact h
       |4=>rw [m5.out] at h ⊢;exact h
       |5=>rw [mW.out] at h ⊢;exact h
       |6=>rw [m7.out] at h ⊢;(first | exact HeldE.upd h hx (fun b hb e=>by have hb:wk.heap.size<=b:=hb;have:=(ph.out.lt b e).2;omega) | (obtain ⟨v,e1,h⟩:=h;exact ⟨v,e1,HeldE.upd h hx (fun b hb e=>by have hb:wk.heap.size<=b:=hb;have:=(ph.out.lt b e).2;omega)⟩))
       |7=>rw [mX.out] at h ⊢;(first | exact HeldE.upd h hx (fun b hb e=>by have hb:wk.heap.size<=b:=hb;have:=(ph.out.lt b e).2;omega) | (obtain ⟨v,e1,h⟩:=h;exact ⟨v,e1,HeldE.upd h hx (fun b hb e=>by have hb:wk.heap.size<=b:=hb;have:=(ph.out.lt b e).2;omega)⟩))
       |8=>rw [no.out] at h ⊢;(first | exact HeldE.upd h hx (fun b hb e=>by have hb:wk.heap.size<=b:=hb;have:=(ph.out.lt b e).2;omega) | (obtain ⟨v,e1,h⟩:=h;exact ⟨v,e1,HeldE.upd h hx (fun b hb e=>by have hb:wk.heap.size<=b:=hb;have:=(ph.out.lt b e).2;omega)⟩))
       |9=>exact absurd rfl ny
       |10=>rw [mn.out] at h ⊢;exact h
       |11=>rw [mH.out] at h ⊢;exact h
       |jj+12=>rw [oO.out];trivial
      ·simp only [if_neg hi] at hx
       match jj with
       |0=>rw [nq.out] at h ⊢;exact h
       |1=>rw [m4.out] at h ⊢;exact h
       |2=>rw [mN.out] at h ⊢;exact h
       |3=>rw [m9.out] at h ⊢;exact h
       |4=>rw [m5.out] at h ⊢;exact h
       |5=>rw [mW.out] at h ⊢;exact h
       |6=>rw [m7.out] at h ⊢;(first | exact HeldE.upd h hx (fun b hb e=>by have hb:wk.heap.size<=b:=hb;rcases e with e | e <;> omega) | exact OwnE.upd h hx (fun b hb e=>by rcases hb with hb | hb;(have hb:gv<b:=hb;rcases e with e | e <;> omega);(have:=(OwnE.lt h b hb).1;rcases e with e | e <;> omega)) | (obtain ⟨v,e1,h⟩:=h;exact ⟨v,e1,HeldE.upd h hx (fun b hb e=>by have hb:wk.heap.size<=b:=hb;rcases e with e | e <;> omega)⟩))
       |7=>rw [mX.out] at h ⊢;(first | exact HeldE.upd h hx (fun b hb e=>by have hb:wk.heap.size<=b:=hb;rcases e with e | e <;> omega) | exact OwnE.upd h hx (fun b hb e=>by rcases hb with hb | hb;(have hb:gv<b:=hb;rcases e with e | e <;> omega);(have:=(OwnE.lt h b hb).1;rcases e with e | e <;> omega)) | (obtain ⟨v,e1,h⟩:=h;exact ⟨v,e1,HeldE.upd h hx (fun b hb e=>by have hb:wk.heap.size<=b:=hb;rcases e with e | e <;> omega)⟩))
       |8=>rw [no.out] at h ⊢;(first | exact HeldE.upd h hx (fun b hb e=>by have hb:wk.heap.size<=b:=hb;rcases e with e | e <;> omega) | exact OwnE.upd h hx (fun b hb e=>by rcases hb with hb | hb;(have hb:gv<b:=hb;rcases e with e | e <;> omega);(have:=(OwnE.lt h b hb).1;rcases e with e | e <;> omega)) | (obtain ⟨v,e1,h⟩:=h;exact ⟨v,e1,HeldE.upd h hx (fun b hb e=>by have hb:wk.heap.size<=b:=hb;rcases e with e | e <;> omega)⟩))
       |9=>rw [nO.out] at h ⊢;(first | exact HeldE.upd h hx (fun b hb e=>by have hb:wk.heap.size<=b:=hb;rcases e with e | e <;> omega) | exact OwnE.upd h hx (fun b hb e=>by rcases hb with hb | hb;(have hb:gv<b:=hb;rcases e with e | e <;> omega);(have:=(OwnE.lt h b hb).1;rcases e with e | e <;> omega)) | (obtain ⟨v,e1,h⟩:=h;exact ⟨v,e1,HeldE.upd h hx (fun b hb e=>by have hb:wk.heap.size<=b:=hb;rcases e with e | e <;> omega)⟩))
       |10=>rw [mn.out] at h ⊢;exact h
       |11=>rw [mH.out] at h ⊢;exact h
       |jj+12=>rw [oO.out];trivial
     simp only [Reg.frame,Reg.dsts,List.map_cons,List.map_nil,Mix.put_lit,Reg.put_none,List.set_cons_succ,List.set_cons_zero,Nat.zero_add,Nat.reduceAdd] at lJ;refine ⟨?_,?_⟩
     ·refine ⟨?_,?_,?_,?_,?_,?_,?_,?_,?_,?_,?_,?_,trivial⟩
      ·intro Lq wq xq hh;simp only [lJ];refine .inl ⟨rfl,?_⟩;unfold Reg.upon;have hk:=ma.out 0 Lq wq (by decide) (by decide) (by decide)  hh.cls;have hx:mB 0 wq wq:=ml.out wq;have he:lH 0 (.pointer (some ⟨gv,2,none⟩)) wq:=by rw [nq.out]
       have HK:=aa (And.intro hk (And.intro he hx));clear hk hx he;go_simp;exact HK.out
      ·intro Lq wq xq hh;have d0:lH 0 (xq 0) wq:=hh.val 0 (by kernel_rfl) (by kernel_rfl);rw [nq.out] at d0;simp only [lJ,d0];clear d0;refine .inl ⟨rfl,?_⟩;unfold Reg.upon;have hc:mr Lq wq:=hh.cls;rw [lL.out] at hc;have q0:=((hc.2.1 (Mix.one_un (hh.notYet 9 (by kernel_rfl)))).keep.has qQ.out (fun e=>by omega)).cell 2 _ rfl;clear hc;have hk:=ma.out 1 Lq wq (by decide) (by decide) (by decide)  hh.cls;have hx:mB 1 wq wq:=ml.out wq;have he:lH 1 (.slice ao n cap) wq:=by rw [m4.out]
       have HK:=aa (And.intro hk (And.intro he hx));clear hk hx he;go_simp;exact HK.out
      ·intro Lq wq xq hh;simp only [lJ];refine .inl ⟨rfl,?_⟩;unfold Reg.upon;have hk:=ma.out 2 Lq wq (by decide) (by decide) (by decide)  hh.cls;have hx:mB 2 wq wq:=ml.out wq;have he:lH 2 (.bool wp) wq:=by rw [mN.out]
       have HK:=aa (And.intro hk (And.intro he hx));clear hk hx he;go_simp;exact HK.out
      ·intro Lq wq xq hh;simp only [lJ];refine .inl ⟨rfl,?_⟩;unfold Reg.upon;have hk:=ma.out 3 Lq wq (by decide) (by decide) (by decide)  hh.cls;have hx:mB 3 wq wq:=ml.out wq;have he:lH 3 (.pointer (some ⟨g,0,none⟩)) wq:=by rw [m9.out]
       have HK:=aa (And.intro hk (And.intro he hx));clear hk hx he;go_simp;exact HK.out
      ·intro Lq wq xq hh;simp only [lJ];refine .inl ⟨rfl,?_⟩;unfold Reg.upon;have hk:=ma.out 4 Lq wq (by decide) (by decide) (by decide)  hh.cls;have hx:mB 4 wq wq:=ml.out wq;have he:lH 4 (.pointer (some ⟨gv,0,none⟩)) wq:=by rw [m5.out]
       have HK:=aa (And.intro hk (And.intro he hx));clear hk hx he;go_simp;exact HK.out
      ·intro Lq wq xq hh;have d4:lH 4 (xq 4) wq:=hh.val 4 (by kernel_rfl) (by kernel_rfl);rw [m5.out] at d4;simp only [lJ,d4];clear d4;refine .inl ⟨rfl,?_⟩;unfold Reg.upon;have hc:mr Lq wq:=hh.cls;rw [lL.out] at hc;have q0:=((hc.2.1 (Mix.one_un (hh.notYet 9 (by kernel_rfl)))).keep.has qQ.out (fun e=>by omega)).cell 0 _ rfl;clear hc;have hk:=ma.out 5 Lq wq (by decide) (by decide) (by decide)  hh.cls;have hx:mB 5 wq wq:=ml.out wq;have he:lH 5 (.int .i64 (wd:Int)) wq:=by rw [mW.out]
       have HK:=aa (And.intro hk (And.intro he hx));clear hk hx he;go_simp;exact HK.out
      ·intro Lq wq xq hh;have d3:lH 3 (xq 3) wq:=hh.val 3 (by kernel_rfl) (by kernel_rfl);rw [m9.out] at d3;have d5:lH 5 (xq 5) wq:=hh.val 5 (by kernel_rfl) (by kernel_rfl);rw [mW.out] at d5;simp only [lJ,d3,d5];clear d3 d5;refine .inl ⟨rfl,?_⟩;unfold Reg.upon;have hc:mr Lq wq:=hh.cls;rw [lL.out] at hc;have hb:=hc.1 hh.un;have hq:=g9 s0 g wd y1 e1 wq (HRk.out.below hb) oZ qK;rw [HCC2.out] at hq;have n9:=hc.2.1 (Mix.one_un (hh.notYet 9 (by kernel_rfl)));have n11:=hc.2.2.1 (Mix.one_un (hh.notYet 11 (by kernel_rfl)));go_simp;refine hq.mono ?_;rintro e w2 ⟨v6,rfl,ho,hr,hu⟩;have hH:HeldE cellE (fun b=>wk.heap.size<=b) w2 v6 CL:=(ho.held (fun b h _=>h)).zone (fun b _ hz=>Nat.le_trans hb.size hz);have hF:mr (Lq.setIfInBounds 6 true) w2:=by
        rw [lL.out];refine ⟨fun e=>?_,fun _=>n9.trans hu,fun _=>n11.trans (hu.mono fun b _ e=>.inl e),fun _=>hr,fun e=>?_⟩
        ·rw [Mix.one_set (by rw [hh.size];decide)] at e;exact absurd e (by decide)
        ·rw [Mix.one_ne (by decide),Mix.one_un (hh.notYet 11 (by kernel_rfl))] at e;cases e
       exact ⟨_,rfl,hF,(by rw [m7.out];exact hH),(by rw [mM.out];exact hu.mono fun b _ e=>.inl e)⟩
      ·intro Lq wq xq hh;have d2:lH 2 (xq 2) wq:=hh.val 2 (by kernel_rfl) (by kernel_rfl);rw [mN.out] at d2;have d6:lH 6 (xq 6) wq:=hh.val 6 (by kernel_rfl) (by kernel_rfl);rw [m7.out] at d6;simp only [lJ,d2];clear d2;refine .inl ⟨rfl,?_⟩;unfold Reg.upon;obtain ⟨a6,c6,e6⟩:=d6.len;rw [e6] at d6;rw [eY rfl rfl e6];exact ⟨ma.out 7 Lq wq (by decide) (by decide) (by decide) hh.cls,(by rw [mX.out];exact ⟨_,rfl,d6⟩),ml.out _⟩
      ·intro Lq wq xq hh;have d7:lH 7 (xq 7) wq:=hh.val 7 (by kernel_rfl) (by kernel_rfl);rw [mX.out] at d7;simp only [lJ];refine .inl ⟨rfl,?_⟩;unfold Reg.upon;have hc:mr Lq wq:=hh.cls;rw [lL.out] at hc;have n9:=(hc.2.1 (Mix.one_un (hh.notYet 9 (by kernel_rfl)))).size;obtain ⟨v7,e7,h7⟩:=d7;obtain ⟨a7,c7,q7⟩:=h7.len;subst q7;rw [eZ rfl e7];have hb:=(Below.refl (wq).heap.size wq).alloc (Nat.le_refl _) (.cells [Value.slice a7 CL.length c7,.bool wp].toArray 69);refine ⟨ma.out 8 Lq _ (by decide) (by decide) (by decide) (Hrgqb.out Lq wq _ hh.cls hb),?_,Hrgqxb.out wq _ hb⟩;rw [no.out];exact cA (E:=lineE) (w:=wq) (ty:=69) (Y:=fun b=>wk.heap.size<=b) (Z:=fun b=>wk.heap.size<=b) [.slice a7 CL.length c7,.bool wp] (CL,wp) (line_rep.2 ⟨_,rfl,h7⟩) (fun _ _ h=>h) n9
      ·intro Lq wq xq hh;have d1:lH 1 (xq 1) wq:=hh.val 1 (by kernel_rfl) (by kernel_rfl);rw [m4.out] at d1;have d8:lH 8 (xq 8) wq:=hh.val 8 (by kernel_rfl) (by kernel_rfl);rw [no.out] at d8;simp only [lJ,d1];clear d1;refine .inl ⟨rfl,?_⟩;unfold Reg.upon;have hc:mr Lq wq:=hh.cls;rw [lL.out] at hc;have tM:=hc.2.1 hh.un;have hc11:=hc.2.2.1 (Mix.one_un (hh.notYet 11 (by kernel_rfl)));have hc6:=hc.2.2.2.1 (hh.isDone 6 (by kernel_rfl));have how:=ph.out.upd tM (fun b hb e=>by rcases hb with hb | hb;(have hb:gv<b:=hb;have e:b=g:=e;omega);(have:=(ph.out.lt b hb).1;have e:b=g:=e;omega));obtain ⟨v',w',hr,h1,h2,h3,h4⟩:=cK (P:=Tryd.prog) (E:=lineE) (Z:=fun b=>gv<b) (w:=wq) (B:=gv+1) (ty:=69) 29 _ (.agg #[.slice none 0 0,.bool false]) 32 Tryd.underlying29 jd rfl (by decide) how (d8.zone (Y:=fun b=>gv<b/\(Value.slice ao n cap).ownBlock≠some b) (fun b _ hz=>⟨by have hz:wk.heap.size<=b:=hz;omega,fun e=>by have hz:wk.heap.size<=b:=hz;have:=(ph.out.lt b e).2;omega⟩)) (by rw [<-nT.out];simp;omega) (by rw [<-nT.out];simp;omega) (by have:=tM.size;omega);have hu:Upd (fun b=>(Value.slice ao n cap).ownBlock=some b) wq w':=⟨h2.os,h2.tape,h2.output,h3.size,fun b hb hn=>h3.block b hb hn⟩;rw [eJ rfl rfl rfl hr];refine ⟨?_,?_,?_⟩
       ·rw [lL.out];refine ⟨fun e=>?_,fun e=>?_,fun _=>hc11.trans (hu.mono fun b _ e=>.inr e),fun _=>hc6.upd hu (fun b e=>by have:=(ph.out.lt b e).1;omega),fun e=>?_⟩
        ·have:=hh.isDone 6 (by kernel_rfl);rw [Mix.one_ne (by decide),this] at e;cases e
        ·rw [Mix.one_set (by rw [hh.size];decide)] at e;exact absurd e (by decide)
        ·rw [Mix.one_ne (by decide),Mix.one_un (hh.notYet 11 (by kernel_rfl))] at e;cases e
       ·rw [nO.out];exact h1
       ·rw [mM.out];exact hu
      ·intro Lq wq xq hh;simp only [lJ];refine .inl ⟨rfl,?_⟩;unfold Reg.upon;have hk:=ma.out 10 Lq wq (by decide) (by decide) (by decide)  hh.cls;have hx:mB 10 wq wq:=ml.out wq;have he:lH 10 (.pointer (some ⟨gv,2,none⟩)) wq:=by rw [mn.out]
       have HK:=aa (And.intro hk (And.intro he hx));clear hk hx he;go_simp;exact HK.out
      ·intro Lq wq xq hh;have d9:lH 9 (xq 9) wq:=hh.val 9 (by kernel_rfl) (by kernel_rfl);rw [nO.out] at d9;have d10:lH 10 (xq 10) wq:=hh.val 10 (by kernel_rfl) (by kernel_rfl);rw [mn.out] at d10;simp only [lJ,d10];clear d10;refine .inl ⟨rfl,?_⟩;unfold Reg.upon;have hc:mr Lq wq:=hh.cls;rw [lL.out] at hc;have tM:=hc.2.2.1 hh.un;obtain ⟨a5,c5,e5⟩:=(d9.held (fun _ h _=>h)).len;have hrow:=tM.keep.has qQ.out (fun e=>by rcases e with e | e;omega;have:=(ph.out.lt _ e).1;omega);have hcel:=hrow.cell 2 _ rfl;have hfre:=hrow.free 2;have hset:=hrow.set 2 (xq 9);have ug:=(Upd.refl (fun b=>b=gv) wq).setCell (p:=⟨gv,2,none⟩) (.inl rfl) (xq 9);have ot:=d9.upd ug (fun b hb e=>by have e:b=gv:=e;rcases hb with hb | hb;(have hb:gv<b:=hb;omega);(have:=(d9.lt b hb).1;omega));have hr3:=(hc.2.2.2.1 (hh.isDone 6 (by kernel_rfl))).upd ug (fun b e=>by have e:b=gv:=e;omega);have nw:=(tM.mono (T:=fun b=>b=g\/b=gv\/(Value.slice ao n cap).ownBlock=some b) (fun b _ e=>by rcases e with e | e;exact .inl e;exact .inr (.inr e))).trans (ug.mono (fun b _ e=>.inr (.inl e)));rw [e5] at hset ug hr3 nw;rw [e5] at ot;rw [fa (b:=gv) (off:=2) rfl rfl e5 _ hcel hfre (by kernel_rfl)];refine ⟨?_,by rw [mH.out],by rw [mM.out];exact ug.mono fun b _ e=>.inr e⟩;rw [lL.out];refine ⟨fun e=>?_,fun e=>?_,fun e=>?_,fun _=>hr3,fun _=>⟨⟨_,hset,ot⟩,nw⟩⟩
       ·have:=hh.isDone 6 (by kernel_rfl);rw [Mix.one_ne (by decide),this] at e;cases e
       ·have:=hh.isDone 9 (by kernel_rfl);rw [Mix.one_ne (by decide),this] at e;cases e
       ·rw [Mix.one_set (by rw [hh.size];decide)] at e;exact absurd e (by decide)
     intro xq oP hcrgq hvrgq;rw [lL.out] at hcrgq;simp only [lJ];clear hvrgq lJ ma ml oO Hrgqc lL mM Hrgqb Hrgqxb nq m4 mN m9 m5 mW m7 mX no nO mn mH;obtain ⟨_,_,_,k4,k5⟩:=hcrgq;have k4:=k4 (by kernel_rfl);obtain ⟨⟨v,k5,k6⟩,k7⟩:=k5 (by kernel_rfl);have HUx:=aa (show Upd (fun b=>b=g) w oP from ⟨sV.out.os.symm ▸ k7.os,sV.out.tape.symm ▸ k7.tape,sV.out.output.symm ▸ k7.output,Nat.le_trans sV.out.size k7.size,fun b hb hn=>(k7.block b (by have:=sV.out.size;omega) (fun e=>by
      rcases e with e | e | e
      ·exact hn e
      ·have:=nA.out;omega
      ·have:=(ph.out.lt b e).1;have:=nA.out;omega)).trans (sV.out.block b hb hn)⟩)
     have hgr2:=k7.keep.has HGRk.out (fun e=>by
      rcases e with e | e | e
      ·omega
      ·omega
      ·have:=(ph.out.lt _ e).1;omega)
     obtain ⟨a2,c2,ev⟩:=(k6.held (fun _ h _=>h)).len;obtain ⟨A2,sv⟩:=ab (A++[(CL,wp)]);have hl2:A2.length=i+1:=by rw [sv,List.length_append,List.length_singleton,nT.out]
     rw [<-sv] at ev k6 vd;rw [hl2] at ev;subst ev;have hszx:gv<oP.heap.size:=k5.lt;have HF:=aa (show i+1=i+1/\i+1=A2.length/\g8 wd (hg - (i+1)) A2 y2 e2=R/\y2.length<=1000000/\(e2=false->wd<=1024/\hg<=1024)/\Has oP gr [Value.int .i64 0,.int .i64 0,.slice none 0 0,.int .i64 0,.int .i64 0,.bool false,.bool false] 44/\Has oP gv [Value.int .i64 (wd:Int),.int .i64 (hg:Int),.slice a2 (i+1) c2,.int .i64 (rr:Int),.int .i64 (cc:Int),.bool pd,.bool au] 44/\OwnE lineE (fun b=>gv<b) oP (gv+1) 69 (.slice a2 (i+1) c2) A2/\RdAt s0 oP g y2 e2/\Upd (fun b=>b=g) w oP from ⟨rfl,hl2.symm,vd.out,hy2,fun _=>⟨qK,hhm⟩,hgr2,k5,k6,k4,HUx.out⟩);clear k4 k5 k6 k7 hgr2 sv hl2;go_wp2
     go_roundw
     case rel=>exact ⟨i+1,i+1,c2,a2,A2,y2,e2,by first | rfl | go_num,by omega,hszx,HF⟩
     case measure=>simp [intOf] <;> omega
    |false =>
     have um:=aa (show R=(A,ys,bd) from by
      rw [<-HS.out.2.2.1];have ht:=lM.out
      by_cases hlt:i<hg
      ·rw [decide_eq_true hlt] at ht;have hb:bd=true:=by cases bd;exact absurd ht (by decide);rfl
       subst hb
       cases hg - i with
       |zero=>rfl
       |succ f=>exact if_pos rfl
      ·rw [show hg - i=0 from by omega];rfl)
     have rl:=aa (show bY xs=(⟨wd,hg,A,rr,cc,pd,au⟩,ys,bd) from by
      unfold bY;simp only [HE.out];rw [<-td.out,um.out,uT.out,HAU.out]
      rfl)
     have hgrq:=HS.out.2.2.2.2.2.1;have hgvq:=HS.out.2.2.2.2.2.2.1;have HF:=aa (And.intro HS.out.2.2.2.2.2.2.2.1 (And.intro HS.out.2.2.2.2.2.2.2.2.1 HS.out.2.2.2.2.2.2.2.2.2));clear HS lM um
     go_upto_region 13 with (fail)
     go_wp2_with (first | (refine bb rfl 44 (.tmp 3) rfl gv rfl 44 _ _ 7 hgvq Tryd.underlying44 rfl aS rfl ?_) | (refine cC rfl 44 (.tmp 2) (.tmp 74) rfl gr rfl 44 [Value.int .i64 0,.int .i64 0,.slice none 0 0,.int .i64 0,.int .i64 0,.bool false,.bool false] [Value.int .i64 (wd:Int),.int .i64 (hg:Int),.slice ao n cap,.int .i64 (rr:Int),.int .i64 (cc:Int),.bool pd,.bool au] 7 rfl hgrq aS rfl rfl (by simp [Value.oneCell']) ?_;intro wz hz pU))
     obtain ⟨hO,hRD,hU⟩:=HF.out;have rN:Upd (fun b=>b=gr) wq wz:=⟨pU.os,pU.tape,pU.output,pU.size,fun b hb hn=>pU.block b hb hn⟩;have nI:Upd (fun b=>b=g) w wz:=⟨hU.os.symm ▸ rN.os,hU.tape.symm ▸ rN.tape,hU.output.symm ▸ rN.output,Nat.le_trans hU.size rN.size,fun b hb hn=>(rN.block b (by have:=hU.size;omega) (fun e=>by have e:b=gr:=e;have:=nA.out;omega)).trans (hU.block b hb hn)⟩;have hhz:HeldE lineE (fun b=>w.heap.size<=b) wz (.slice ao n cap) A:=((hO.held (fun _ h _=>h)).zone (Y:=fun b=>w.heap.size<=b/\b≠gr) (fun b _ h=>by have h:gv<b:=h;have:=nA.out;constructor <;> omega)).upd rN (fun b hb e=>hb.2 e) |>.zone (fun b _ h=>h.1)
     have hrz:=hRD.upd rN (fun b e=>by have e:b=gr:=e;omega);exact bodyPost_ret (v:=.agg [Value.int .i64 (wd:Int),.int .i64 (hg:Int),.slice ao n cap,.int .i64 (rr:Int),.int .i64 (cc:Int),.bool pd,.bool au].toArray) (gG Tryd.results55 _ _ gr 44 [Value.int .i64 (wd:Int),.int .i64 (hg:Int),.slice ao n cap,.int .i64 (rr:Int),.int .i64 (cc:Int),.bool pd,.bool au] _ 7 rfl hz Tryd.underlying44 rfl aS rfl) rfl ⟨.slice ao n cap,by rw [rl.out];rfl,by rw [rl.out];exact hhz,by rw [rl.out];exact hrz,nI,by rw [rl.out];exact ⟨Int.natCast_nonneg _,by show (wd:Int)<2097152;omega,Int.natCast_nonneg _,by show (hg:Int)<2097152;omega⟩⟩
end Go.Proofs.YtechjomepdahiaaDoor
