import Derived.Test.YtechjomepdahiaaDoorZ0
import Derived.Test.YtechjomepdahiaaDoorWirI
set_option maxRecDepth 100000
set_option linter.unusedVariables false
set_option linter.unusedSimpArgs false
set_option maxHeartbeats 4000000
namespace Go.Proofs.YtechjomepdahiaaDoor
open Go.RowKit Go.ChangeShapes Go.WideShapes
def fV(wd:Nat):Nat->List Ln->List Int->Bool->List Ln × List Int × Bool
 | 0,A,xs,bad=>(A,xs,bad)
 | k+1,A,xs,bad=>if bad=true then (A,xs,bad) else fV wd k (A++[((cj wd wd [] (az xs bad).2.1 (az xs bad).2.2).1,decide ((az xs bad).1=1))]) (cj wd wd [] (az xs bad).2.1 (az xs bad).2.2).2.1 (cj wd wd [] (az xs bad).2.1 (az xs bad).2.2).2.2
def gD(xs:List Int):Nat × Nat × Nat × Nat × Int × List Int × Bool :=
 let m:=az xs false
 let w:=ak 3 0 1 m.2.1 (m.2.2 || !(m.1 == 76))
 let h:=ak 3 0 1 w.2.1 w.2.2
 let r:=ak 3 0 1 h.2.1 h.2.2
 let c:=ak 3 0 1 r.2.1 r.2.2
 let f:=az c.2.1 c.2.2
 (w.1,h.1,r.1,c.1,f.1,f.2.1,f.2.2 || !(decide (w.1<=1024) && decide (h.1<=1024)))
def bC(xs:List Int):Vw × List Int × Bool :=
 let H:=gD xs
 let l:=fV H.1 H.2.1 [] H.2.2.2.2.2.1 H.2.2.2.2.2.2
 (⟨H.1,H.2.1,l.1,H.2.2.1,H.2.2.2.1,decide (H.2.2.2.2.1.toNat % 2=1),decide (H.2.2.2.2.1.toNat / 2 % 2=1)⟩,l.2.1,l.2.2)
theorem kV(x:Nat)(h:x<=255):bits .and .u8 (x:Int) 1=((x % 2:Nat):Int):=by
 have key:∀ x:Nat,x<256->bits .and .u8 (x:Int) 1=((x % 2:Nat):Int):=by decide +kernel
 exact key x (by omega)
theorem and_two(x:Nat)(h:x<=255):bits .and .u8 (x:Int) 2=((x / 2 % 2 * 2:Nat):Int):=by
 have key:∀ x:Nat,x<256->bits .and .u8 (x:Int) 2=((x / 2 % 2 * 2:Nat):Int):=by decide +kernel
 exact key x (by omega)
theorem j9:∀ (f wd:Nat) (A:List Cl) (xs:List Int) (bad:Bool),(cj wd f A xs bad).2.1.length<=xs.length/\((cj wd f A xs bad).1.length<=max A.length (wd+1)):=by
 have ins:∀ (f e:Nat) (A:List Cl) (xs:List Int) (bad:Bool),(bP e f A xs bad).2.1.length<=xs.length/\(bP e f A xs bad).1.length<=max A.length (e+1):=by
  intro f
  induction f with
  |zero=>intro e A xs bad;exact ⟨Nat.le_refl _,Nat.le_max_left _ _⟩
  |succ f ih =>
   intro e A xs bad;unfold bP
   split
   next h =>
    have h1:=ih e (A++(bE xs bad).1) (bE xs bad).2.1 (bE xs bad).2.2;have h2:=gE xs bad;rw [List.length_append] at h1;exact ⟨Nat.le_trans h1.1 h2.2.2,by omega⟩
   next=>exact ⟨Nat.le_refl _,Nat.le_max_left _ _⟩
 intro f
 induction f with
 |zero=>intro wd A xs bad;exact ⟨Nat.le_refl _,Nat.le_max_left _ _⟩
 |succ f ih =>
  intro wd A xs bad;have hs:=bp 3 0 1 (xs:=xs) bad;unfold cj
  split
  next h =>
   split
   next=>exact ⟨hs,Nat.zero_le _⟩
   next hb =>
    have mH:ep wd A (ak 3 0 1 xs bad).1=true:=by
     cases hq:ep wd A (ak 3 0 1 xs bad).1 with
     | true=>rfl
     | false=>rw [hq] at hb;simp at hb
    unfold ep at mH;rw [Bool.and_eq_true,decide_eq_true_eq,decide_eq_true_eq] at mH
    split
    next =>
     have h1:=ih wd (A++List.replicate ((ak 3 0 1 xs bad).1 / 2) zc) (ak 3 0 1 xs bad).2.1 false;rw [List.length_append,List.length_replicate] at h1;exact ⟨Nat.le_trans h1.1 hs,by omega⟩
    next =>
     have h2:=ins ((ak 3 0 1 xs bad).1 / 2) (A.length+(ak 3 0 1 xs bad).1 / 2) A (ak 3 0 1 xs bad).2.1 false;have h1:=ih wd (bP (A.length+(ak 3 0 1 xs bad).1 / 2) ((ak 3 0 1 xs bad).1 / 2) A (ak 3 0 1 xs bad).2.1 false).1 (bP (A.length+(ak 3 0 1 xs bad).1 / 2) ((ak 3 0 1 xs bad).1 / 2) A (ak 3 0 1 xs bad).2.1 false).2.1 ((bP (A.length+(ak 3 0 1 xs bad).1 / 2) ((ak 3 0 1 xs bad).1 / 2) A (ak 3 0 1 xs bad).2.1 false).2.2 || !decide ((bP (A.length+(ak 3 0 1 xs bad).1 / 2) ((ak 3 0 1 xs bad).1 / 2) A (ak 3 0 1 xs bad).2.1 false).1.length=A.length+(ak 3 0 1 xs bad).1 / 2));exact ⟨Nat.le_trans h1.1 (Nat.le_trans h2.1 hs),by omega⟩
  next=>exact ⟨Nat.le_refl _,Nat.le_max_left _ _⟩
theorem fh{ρ:Operand->Value}{o:Oper}{w:World}{x y:Operand}{a:Option Addr}{n c:Nat}{p:Bool}(ho:o.op=.build 69 #[(1,x),(0,y)])(hx:ρ x=.bool p)(hy:ρ y=.slice a n c):(execOp ρ o).run Tryd.prog w=.ok (.value (.agg #[.slice a n c,.bool p])) w:=by
 unfold execOp
 simp [ho,hx,hy,go_sem]
theorem fj{ρ:Operand->Value}{o:Oper}{w:World}{x:Operand}{a:Option Addr}{n c:Nat}{p:Bool}(ho:o.op=.buildSlice 29 1 #[(0,x)])(hx:ρ x=.agg #[.slice a n c,.bool p]):(execOp ρ o).run Tryd.prog w=.ok (.value (.slice (some ⟨w.heap.size,0,none⟩) 1 1)) (w.alloc (.cells [Value.slice a n c,.bool p].toArray 69)):=by
 unfold execOp
 simp [ho,hx,go_sem]
theorem aU:(Tryd.prog.info? 44).map (·.size)=some 7:=by kernel_rfl
theorem jq(s0 g:Nat)(xs:List Int)(w:World)(h:RdAt s0 w g xs false)(hl:xs.length<=1000000):Calls Tryd.prog 55 #[.pointer (some ⟨g,0,none⟩)] w (fun e w'=>∃ u,e=.returned (aZ (bC xs).1 u)/\HeldE lineE (fun b=>w.heap.size<=b) w' u (bC xs).1.L/\RdAt s0 w' g (bC xs).2.1 (bC xs).2.2/\Upd (fun b=>b=g) w w'/\0<=(bC xs).1.w/\(bC xs).1.w<2097152/\0<=(bC xs).1.h/\(bC xs).1.h<2097152):=by
 have oP:=h.lt;obtain ⟨W1,hW1⟩:=ab (w.alloc (.cells [Value.int .i64 0,.int .i64 0,.slice none 0 0,.int .i64 0,.int .i64 0,.bool false,.bool false].toArray 44));have b1:Below w.heap.size w W1:=by rw [hW1];exact l7 _ _
 have l8:Has W1 w.heap.size [Value.int .i64 0,.int .i64 0,.slice none 0 0,.int .i64 0,.int .i64 0,.bool false,.bool false] 44:=by rw [hW1];exact Has.new w _ _
 obtain ⟨W2,hW2⟩:=ab (W1.alloc (.cells [Value.int .i64 0,.int .i64 0,.slice none 0 0,.int .i64 0,.int .i64 0,.bool false,.bool false].toArray 44));have b2:Below W1.heap.size W1 W2:=by rw [hW2];exact l7 _ _
 have mQ:Has W2 W1.heap.size [Value.int .i64 0,.int .i64 0,.slice none 0 0,.int .i64 0,.int .i64 0,.bool false,.bool false] 44:=by rw [hW2];exact Has.new W1 _ _
 have l8:=l8.below b2 l8.lt;have s1:W1.heap.size=w.heap.size+1:=by rw [hW1];exact Array.size_push _
 have mG:=aa hW1.symm;have rn:=aa hW2.symm;obtain ⟨gr,hgr⟩:=ab (w.heap.size);obtain ⟨gv,oa⟩:=ab (W1.heap.size);rw [<-hgr] at l8;rw [<-oa] at mQ;have oq:=aa hgr;have pI:=aa oa;have hgg:g<gr/\gr<gv:=by omega
 have HA:=aa (And.intro l8 mQ);have HR0:=aa ((h.below b1).below b2);have pa:=aa (show Upd (fun b=>b=g) w W2 from .ofBelow (b1.trans (b2.mono b1.size)));obtain ⟨m1,x1,d1,hm⟩ : ∃ a b c,az xs false=(a,b,c):=⟨_,_,_,rfl⟩;obtain ⟨wd,x2,d2,hwd⟩ : ∃ a b c,ak 3 0 1 x1 (d1 || !(m1 == 76))=(a,b,c):=⟨_,_,_,rfl⟩;obtain ⟨hg,x3,d3,wB⟩ : ∃ a b c,ak 3 0 1 x2 d2=(a,b,c):=⟨_,_,_,rfl⟩;obtain ⟨rr,x4,d4,vL⟩ : ∃ a b c,ak 3 0 1 x3 d3=(a,b,c):=⟨_,_,_,rfl⟩;obtain ⟨cc,x5,d5,hcc⟩ : ∃ a b c,ak 3 0 1 x4 d4=(a,b,c):=⟨_,_,_,rfl⟩;obtain ⟨fl,x6,d6,mD⟩ : ∃ a b c,az x5 d5=(a,b,c):=⟨_,_,_,rfl⟩;obtain ⟨d7,yk⟩:=ab ((d6 || !(decide (wd<=1024) && decide (hg<=1024))));have HE:=aa (show gD xs=(wd,hg,rr,cc,fl,x6,d7) from by
  unfold gD;simp only [hm,hwd,wB,vL,hcc,mD,yk])
 have ua:=aa yk;have hx6:x6.length<=1000000:=by
  have e1:=(dI (xs:=xs) false).1;have e2:=bp 3 0 1 (xs:=x1) (d1 || !(m1 == 76));have e3:=bp 3 0 1 (xs:=x2) d2;have e4:=bp 3 0 1 (xs:=x3) d3;have e5:=bp 3 0 1 (xs:=x4) d4;have e6:=(dI (xs:=x5) d5).1;rw [hm] at e1;rw [hwd] at e2;rw [wB] at e3;rw [vL] at e4;rw [hcc] at e5;rw [mD] at e6
  dsimp only at e1 e2 e3 e4 e5 e6
  omega
 have xW:=aa hwd;have xz:=aa wB;have uf:=aa vL;have x7:=aa hcc;have oR:=aa mD;have hgw1:=pI.out;have rt:gv=w.heap.size+1:=by rw [hgw1,s1]
 have HC:=aa (show Calls Tryd.prog 90 #[.pointer (some ⟨g,0,none⟩)] W2 (eA s0 g W2 (fun _ u=>u=.int .u8 m1) x1 d1) from by have:=cu s0 g xs false W2 HR0.out;rw [hm] at this;exact this);have qd:=aa rt.symm;clear hW1 b1 l8 hW2 b2 mQ s1 hgr oa h hwd wB vL hcc mD yk hm hgw1 rt
 go_enter Tryd.func55,Tryd.ntmps55
 go_upto_region 2 with (fail)
 rw [mG.out,rn.out,qd.out,<-oq.out]
 go_wp2_with fail
 refine (HC.out).mono ?_;rintro e w1 ⟨u1,rfl,rfl,hr1,oS⟩;have uR:=aa (pa.out.trans oS);have tU:=aa (And.intro (oS.keep.has HA.out.1 (fun e=>by omega)) (oS.keep.has HA.out.2 (fun e=>by omega)));have qT:=aa (bF s0 g x1 d1 (m1 == 76) w1 hr1);clear HC mG rn qd pa HA HR0 hr1 oS
 go_wp2_with fail
 refine (qT.out).mono ?_;rintro e w2 ⟨rfl,hr2,ou⟩;have o3:=aa (show Calls Tryd.prog 91 #[.pointer (some ⟨g,0,none⟩)] w2 (eA s0 g w2 (fun _ u=>u=.int .i64 (wd:Int)) x2 d2) from by have:=bm s0 g x1 (d1 || !(m1 == 76)) w2 hr2;rw [xW.out] at this;exact this);have hwl:wd<2097152:=by have:=cN 3 0 1 x1 (d1 || !(m1 == 76)) hr2.2.1 (by decide);rw [xW.out] at this;exact this
 have qB:=aa (uR.out.trans ou);have qi:=aa (And.intro (ou.keep.has tU.out.1 (fun e=>by omega)) (ou.keep.has tU.out.2 (fun e=>by omega)));clear qT uR tU xW hr2 ou
 go_wp2_with fail
 refine (o3.out).mono ?_;rintro e w3 ⟨u3,rfl,rfl,hr3,o6⟩;have HC3:=aa (show Calls Tryd.prog 91 #[.pointer (some ⟨g,0,none⟩)] w3 (eA s0 g w3 (fun _ u=>u=.int .i64 (hg:Int)) x3 d3) from by have:=bm s0 g x2 d2 w3 hr3;rw [xz.out] at this;exact this);have hhl:hg<2097152:=by have:=cN 3 0 1 x2 d2 hr3.2.1 (by decide);rw [xz.out] at this;exact this
 have nn:=aa (qB.out.trans o6);have tV:=aa (And.intro (o6.keep.has qi.out.1 (fun e=>by omega)) (o6.keep.has qi.out.2 (fun e=>by omega)));clear o3 qB qi xz hr3 o6
 go_wp2_with fail
 refine (HC3.out).mono ?_;rintro e w4 ⟨u4,rfl,rfl,hr4,pY⟩;have om:=aa (And.intro (pY.keep.has tV.out.1 (fun e=>by omega)) (pY.keep.has tV.out.2 (fun e=>by omega)));obtain ⟨Wa,va⟩:=ab ((w4.setCell ⟨gv,0,none⟩ (.int .i64 (wd:Int))).setCell ⟨gv,1,none⟩ (.int .i64 (hg:Int)));have ha:Upd (fun b=>b=gv) w4 Wa:=by rw [va];exact ((Upd.refl (fun b=>b=gv) w4).setCell (p:=⟨gv,0,none⟩) (.inl rfl) _).setCell (p:=⟨gv,1,none⟩) (.inl rfl) _
 have xN:=aa (show Has Wa gr [Value.int .i64 0,.int .i64 0,.slice none 0 0,.int .i64 0,.int .i64 0,.bool false,.bool false] 44/\Has Wa gv [Value.int .i64 (wd:Int),.int .i64 (hg:Int),.slice none 0 0,.int .i64 0,.int .i64 0,.bool false,.bool false] 44 from ⟨ha.keep.has om.out.1 (fun e=>by omega),by rw [va];exact (om.out.2.set 0 _).set 1 _⟩);have HUa:=aa (show Upd (fun b=>b=g) w Wa from by rw [va];exact ((nn.out.trans pY).setCell (.inr (by show w.heap.size<=gv;have:=oq.out;omega)) _).setCell (.inr (by show w.heap.size<=gv;have:=oq.out;omega)) _);have uV:=hr4.upd ha (fun b e=>by omega);have HC4:=aa (show Calls Tryd.prog 91 #[.pointer (some ⟨g,0,none⟩)] Wa (eA s0 g Wa (fun _ u=>u=.int .i64 (rr:Int)) x4 d4) from by have:=bm s0 g x3 d3 Wa uV;rw [uf.out] at this;exact this);have th:rr<2097152:=by have:=cN 3 0 1 x3 d3 uV.2.1 (by decide);rw [uf.out] at this;exact this
 have q0:=om.out.2.cell 0 _ rfl;have q1:=om.out.2.cell 1 _ rfl;have f0:=om.out.2.free 0;have f1:=om.out.2.free 1;have HWa:=aa va.symm;clear HC3 nn tV uf hr4 pY om va ha uV
 go_wp2_with fail
 rw [HWa.out];refine HC4.out.mono ?_;rintro e w5 ⟨u5,rfl,rfl,yl,we⟩;have HC5:=aa (show Calls Tryd.prog 91 #[.pointer (some ⟨g,0,none⟩)] w5 (eA s0 g w5 (fun _ u=>u=.int .i64 (cc:Int)) x5 d5) from by have:=bm s0 g x4 d4 w5 yl;rw [x7.out] at this;exact this);have nw:cc<2097152:=by have:=cN 3 0 1 x4 d4 yl.2.1 (by decide);rw [x7.out] at this;exact this
 have tD:=aa (HUa.out.trans we);have xZ:=aa (And.intro (we.keep.has xN.out.1 (fun e=>by omega)) (we.keep.has xN.out.2 (fun e=>by omega)));clear HC4 HUa xN x7 yl we HWa q0 q1 f0 f1
 go_wp2_with fail
 refine (HC5.out).mono ?_;rintro e w6 ⟨u6,rfl,rfl,tY,r5⟩;have ss:=aa (And.intro (r5.keep.has xZ.out.1 (fun e=>by omega)) (r5.keep.has xZ.out.2 (fun e=>by omega)));obtain ⟨Wb,vn⟩:=ab ((w6.setCell ⟨gv,3,none⟩ (.int .i64 (rr:Int))).setCell ⟨gv,4,none⟩ (.int .i64 (cc:Int)));have ha:Upd (fun b=>b=gv) w6 Wb:=by rw [vn];exact ((Upd.refl (fun b=>b=gv) w6).setCell (p:=⟨gv,3,none⟩) (.inl rfl) _).setCell (p:=⟨gv,4,none⟩) (.inl rfl) _
 have yn:=aa (show Has Wb gr [Value.int .i64 0,.int .i64 0,.slice none 0 0,.int .i64 0,.int .i64 0,.bool false,.bool false] 44/\Has Wb gv [Value.int .i64 (wd:Int),.int .i64 (hg:Int),.slice none 0 0,.int .i64 (rr:Int),.int .i64 (cc:Int),.bool false,.bool false] 44 from ⟨ha.keep.has ss.out.1 (fun e=>by omega),by rw [vn];exact (ss.out.2.set 3 _).set 4 _⟩);have HUb:=aa (show Upd (fun b=>b=g) w Wb from by rw [vn];exact ((tD.out.trans r5).setCell (.inr (by show w.heap.size<=gv;have:=oq.out;omega)) _).setCell (.inr (by show w.heap.size<=gv;have:=oq.out;omega)) _);have pL:=tY.upd ha (fun b e=>by omega);have HC6:=aa (show Calls Tryd.prog 90 #[.pointer (some ⟨g,0,none⟩)] Wb (eA s0 g Wb (fun _ u=>u=.int .u8 fl) x6 d6) from by have:=cu s0 g x5 d5 Wb pL;rw [oR.out] at this;exact this);have hfb:0<=fl/\fl<=255:=by have:=ct pL.2.1 d5;rw [oR.out] at this;exact this
 have q3:=ss.out.2.cell 3 _ rfl;have q4:=ss.out.2.cell 4 _ rfl;have f3:=ss.out.2.free 3;have f4:=ss.out.2.free 4;have HWb:=aa vn.symm;clear HC5 tD xZ oR tY r5 ss vn ha pL
 go_wp2_with fail
 rw [HWb.out];refine HC6.out.mono ?_;rintro e w7 ⟨u7,rfl,rfl,hr7,wH⟩;have ug:=aa (HUb.out.trans wH);have sK:=aa (And.intro (wH.keep.has yn.out.1 (fun e=>by omega)) (wH.keep.has yn.out.2 (fun e=>by omega)));have HR7:=aa hr7;clear HC6 HUb yn hr7 wH HWb q3 q4 f3 f4;obtain ⟨fn,hfn⟩ : ∃ fn:Nat,fl=(fn:Int):=⟨fl.toNat,by omega⟩;subst hfn;obtain ⟨p1,oS⟩:=ab (fn % 2);obtain ⟨p2,ou⟩:=ab (fn / 2 % 2 * 2);have hb1:bits .and .u8 (fn:Int) 1=(p1:Int):=by rw [kV fn (by omega),oS]
 have hb2:bits .and .u8 (fn:Int) 2=(p2:Int):=by rw [and_two fn (by omega),ou]
 obtain ⟨pd,sW⟩:=ab (decide (fn % 2=1));obtain ⟨au,xC⟩:=ab (decide (fn / 2 % 2=1));have ol:((p1:Int) != 0)=pd:=by
  rw [sW,<-oS];have:p1=0\/p1=1:=by omega
  rcases this with h | h <;> rw [h] <;> decide
 have r8:((p2:Int) != 0)=au:=by
  rw [xC];have:fn / 2 % 2=0\/fn / 2 % 2=1:=by omega
  rw [ou]
  rcases this with h | h <;> rw [h] <;> decide
 have wI:=aa sW;have HAU:=aa xC;clear oS ou sW xC;obtain ⟨Wc,uL⟩:=ab ((w7.setCell ⟨gv,5,none⟩ (.bool pd)).setCell ⟨gv,6,none⟩ (.bool au));have q5:=sK.out.2.cell 5 _ rfl;have q6:=sK.out.2.cell 6 _ rfl;have f5:=sK.out.2.free 5;have f6:=sK.out.2.free 6
 go_upto_region 7 with (fail)
 have ha:Upd (fun b=>b=gv) w7 Wc:=by rw [uL];exact ((Upd.refl (fun b=>b=gv) w7).setCell (p:=⟨gv,5,none⟩) (.inl rfl) _).setCell (p:=⟨gv,6,none⟩) (.inl rfl) _
 have vG:=aa (show Has Wc gr [Value.int .i64 0,.int .i64 0,.slice none 0 0,.int .i64 0,.int .i64 0,.bool false,.bool false] 44/\Has Wc gv [Value.int .i64 (wd:Int),.int .i64 (hg:Int),.slice none 0 0,.int .i64 (rr:Int),.int .i64 (cc:Int),.bool pd,.bool au] 44 from ⟨ha.keep.has sK.out.1 (fun e=>by omega),by rw [uL];exact (sK.out.2.set 5 _).set 6 _⟩);have HUc:=aa (show Upd (fun b=>b=g) w Wc from by rw [uL];exact (ug.out.setCell (.inr (by show w.heap.size<=gv;have:=oq.out;omega)) _).setCell (.inr (by show w.heap.size<=gv;have:=oq.out;omega)) _);have wM:=aa (HR7.out.upd ha (fun b e=>by omega));rw [<-uL];clear ug sK HR7 q5 q6 f5 f6 uL ha hb1 hb2 ol r8
 go_cut [46] from 37 to 46 (fun tv wx=>Hid (RdAt s0 wx g x6 d7/\Upd (fun b=>b=g) Wc wx))
 case first =>
  have q0:=vG.out.2.cell 0 _ rfl;have q1:=vG.out.2.cell 1 _ rfl
  by_cases hw:wd<=1024
  ·have d1:decide ((wd:Int)<=1024)=true:=ag (by omega);have d1n:decide (wd<=1024)=true:=ag (by omega);have d2:decide ((hg:Int)<=1024)=decide (hg<=1024):=decide_eq_decide.2 (by omega);have pU:=aa (bF s0 g x6 d6 (decide (hg<=1024)) Wc wM.out);rw [<-d2] at pU;have ye:=aa (show d7=(d6 || !(decide ((hg:Int)<=1024))) from by rw [ua.out,d1n,d2,Bool.true_and]);clear hw ua d2
   go_wp2_with fail
   refine pU.out.mono ?_;rintro e w8 ⟨rfl,tQ,vi⟩;have HF:=aa (show RdAt s0 w8 g x6 d7/\Upd (fun b=>b=g) Wc w8 from ⟨by rw [ye.out];exact tQ,vi⟩);clear tQ vi;go_wp2;go_meet
   case rel=>exact HF
  ·have d1:decide ((wd:Int)<=1024)=false:=ah (by omega);have d1n:decide (wd<=1024)=false:=ah (by omega);have pU:=aa (bF s0 g x6 d6 false Wc wM.out);have ye:=aa (show d7=(d6 || !false) from by rw [ua.out,d1n,Bool.false_and]);clear hw ua
   go_wp2_with fail
   refine pU.out.mono ?_;rintro e w8 ⟨rfl,tQ,vi⟩;have HF:=aa (show RdAt s0 w8 g x6 d7/\Upd (fun b=>b=g) Wc w8 from ⟨by rw [ye.out];exact tQ,vi⟩);clear tQ vi;go_wp2;go_meet
   case rel=>exact HF
 case rest =>
  have HLIM:=aa (show d7=false->wd<=1024/\hg<=1024 from fun h=>by
   have:=ua.out.symm;rw [h,Bool.or_eq_false_iff] at this;have h2:=this.2;rw [Bool.not_eq_false',Bool.and_eq_true,decide_eq_true_eq,decide_eq_true_eq] at h2;exact h2)
  obtain ⟨w8,hw8⟩:=ab (wc);subst hw8;have HR8:=aa hcut.out.1;have HU8:=aa (HUc.out.trans hcut.out.2);have wF:=aa (And.intro (hcut.out.2.keep.has vG.out.1 (fun e=>by omega)) (hcut.out.2.keep.has vG.out.2 (fun e=>by omega)));have hsz8:=wF.out.2.lt;clear hcut wM HUc vG ua;obtain ⟨R,hR⟩:=ab (fV wd hg [] x6 d7);have uf:=aa hR;clear hR;go_wp2
  go_loopw [5] (fun cv wr=>∃ (i n cap:Nat) (ao:Option Addr) (A:List Ln) (ys:List Int) (bd:Bool),cv=.int .i64 (i:Int)/\i<=hg/\gv<wr.heap.size/\Hid (n=i/\i=A.length/\fV wd (hg - i) A ys bd=R/\ys.length<=1000000/\(bd=false->wd<=1024/\hg<=1024)/\Has wr gr [Value.int .i64 0,.int .i64 0,.slice none 0 0,.int .i64 0,.int .i64 0,.bool false,.bool false] 44/\Has wr gv [Value.int .i64 (wd:Int),.int .i64 (hg:Int),.slice ao n cap,.int .i64 (rr:Int),.int .i64 (cc:Int),.bool pd,.bool au] 44/\OwnE lineE (fun b=>gv<b) wr (gv+1) 69 (.slice ao n cap) A/\RdAt s0 wr g ys bd/\Upd (fun b=>b=g) w wr)) (fun cv _=>hg - (intOf cv).toNat)
  case atStart=>exact ⟨0,0,0,none,[],x6,d7,rfl,Nat.zero_le _,hsz8,aa ⟨rfl,rfl,uf.out.symm,hx6,HLIM.out,wF.out.1,wF.out.2,OwnE.nil _ _ _ _ _,HR8.out,HU8.out⟩⟩
  case round =>
   clear HR8 HU8 wF hsz8 HLIM;obtain ⟨i,n,cap,ao,A,ys,bd,rfl,hih,hszr,HS⟩:=hrel;obtain ⟨wo,ro⟩:=ab (wr);subst ro;obtain ⟨tt,pC⟩:=ab ((decide (i<hg) && !bd));have mi:=aa pC;clear pC
   go_upto_region 9 with (fail)
   go_cut [57] from 47 to 57 (fun tv wx=>tv=.bool tt/\wx=wo)
   case first =>
    obtain ⟨_,_,rv,hh,_⟩:=HS.out.2.2.2.2.2.2.2.2.1;have q1:=hh.cell 1 _ rfl;have c1:=HS.out.2.2.2.2.2.2.1.cell 1 _ rfl
    by_cases hlt:i<hg
    ·have d1:decide ((i:Int)<(hg:Int))=true:=ag (by omega);have d1n:decide (i<hg)=true:=ag (by omega);have d2:(i:Int)<(hg:Int):=by omega
     have e:tt = !bd:=by rw [mi.out,d1n,Bool.true_and]
     subst e;clear mi hlt hh;go_wp2;go_meet
     case rel=>exact ⟨rfl,rfl⟩
    ·have d1:decide ((i:Int)<(hg:Int))=false:=ah (by omega);have d1n:decide (i<hg)=false:=ah (by omega);have d2:¬ (i:Int)<(hg:Int):=by omega
     have e:tt=false:=by rw [mi.out,d1n,Bool.false_and]
     subst e;clear mi hlt hh;go_wp2;go_meet
     case rel=>exact ⟨rfl,rfl⟩
   case rest =>
    obtain ⟨rfl,rfl⟩:=hcut;obtain ⟨wq,oe⟩:=ab (wc);subst oe;have HNI:=aa HS.out.1
    cases tt with
    |true =>
     have uM:i<hg/\bd=false:=by
      have:=mi.out.symm;rw [Bool.and_eq_true,decide_eq_true_eq] at this;exact ⟨this.1,by cases bd;rfl;exact absurd this.2 (by decide)⟩
     obtain ⟨hlt,nx⟩:=uM;subst nx;obtain ⟨rs,hhm⟩:=HS.out.2.2.2.2.1 rfl;obtain ⟨m2,y1,e1,rg⟩ : ∃ a b c,az ys false=(a,b,c):=⟨_,_,_,rfl⟩;obtain ⟨CL,y2,e2,pW⟩ : ∃ a b c,cj wd wd [] y1 e1=(a,b,c):=⟨_,_,_,rfl⟩;obtain ⟨wp,tr⟩:=ab (decide (m2=1));have wN:(m2 == 1)=wp:=by
      rw [tr]
      by_cases h:m2=1
      ·rw [h];decide
      ·rw [decide_eq_false h,beq_eq_false_iff_ne];exact h
     have pG:y1.length<=1000000:=by
      have e1:=(dI (xs:=ys) false).1;rw [rg] at e1;exact Nat.le_trans e1 HS.out.2.2.2.1
     have hcs:=j9 wd wd [] y1 e1;rw [pW] at hcs;have hy2:y2.length<=1000000:=Nat.le_trans hcs.1 pG;have wn:=aa (show fV wd (hg - (i+1)) (A++[(CL,wp)]) y2 e2=R from by
      have h:=HS.out.2.2.1;rw [show hg - i=(hg - (i+1))+1 from by omega] at h;unfold fV at h;rw [if_neg (by decide)] at h;simp only [rg,pW] at h;rw [tr];exact h)
     have HCO:=aa (show Calls Tryd.prog 90 #[.pointer (some ⟨g,0,none⟩)] wq (eA s0 g wq (fun _ u=>u=.int .u8 m2) y1 e1) from by have:=cu s0 g ys false wq HS.out.2.2.2.2.2.2.2.2.1;rw [rg] at this;exact this);have HCC2:=aa pW;clear tr hcs rg pW mi
     go_wp2_with fail
     refine HCO.out.mono ?_;rintro e wk ⟨u1,rfl,rfl,px,uJ⟩;have oK:=aa HS.out.2.1;have tL:=aa (HS.out.2.2.2.2.2.2.2.2.2.trans uJ);have HRk:=aa px;have HGRk:=aa (uJ.keep.has HS.out.2.2.2.2.2.1 (fun e=>by omega));have rF:=aa (uJ.keep.has HS.out.2.2.2.2.2.2.1 (fun e=>by omega));have pS:=aa (HS.out.2.2.2.2.2.2.2.1.upd uJ (fun b hb e=>by
      rcases hb with hb | hb
      ·omega
      ·have:=(HS.out.2.2.2.2.2.2.2.1.lt b hb).1;omega))
     have ta:gv<wk.heap.size:=rF.out.lt;clear HS px uJ HCO
     go_upto_region 12 with (fail)
     obtain ⟨mb,mj⟩ : ∃ EE:Nat->Value->World->Prop,EE=fun jj xx ww=>match jj with
       |0=>xx=.pointer (some ⟨gv,2,none⟩)
       |1=>xx=.slice ao n cap
       |2=>xx=.bool wp
       |3=>xx=.pointer (some ⟨g,0,none⟩)
       |4=>xx=.pointer (some ⟨gv,0,none⟩)
       |5=>xx=.int .i64 (wd:Int)
       |6=>(fun x w'=>HeldE cellE (fun b=>wk.heap.size<=b) w' x CL) xx ww
       |7=>(fun x w'=>∃ v,x=.agg #[v,.bool wp]/\HeldE cellE (fun b=>wk.heap.size<=b) w' v CL) xx ww
       |8=>(fun x w'=>HeldE lineE (fun b=>wk.heap.size<=b) w' x [(CL,wp)]) xx ww
       |9=>(fun x w'=>OwnE lineE (fun b=>gv<b) w' (gv+1) 69 x (A++[(CL,wp)])) xx ww
       |10=>xx=.pointer (some ⟨gv,2,none⟩)
       |11=>xx=undef
       |_=>True:=⟨_,rfl⟩
     have ergq0:∀ xx ww,mb 0 xx ww=(xx=.pointer (some ⟨gv,2,none⟩)):=fun xx ww=>congrFun (congrFun (congrFun mj 0) xx) ww
     have ergq1:∀ xx ww,mb 1 xx ww=(xx=.slice ao n cap):=fun xx ww=>congrFun (congrFun (congrFun mj 1) xx) ww
     have ergq2:∀ xx ww,mb 2 xx ww=(xx=.bool wp):=fun xx ww=>congrFun (congrFun (congrFun mj 2) xx) ww
     have ergq3:∀ xx ww,mb 3 xx ww=(xx=.pointer (some ⟨g,0,none⟩)):=fun xx ww=>congrFun (congrFun (congrFun mj 3) xx) ww
     have ergq4:∀ xx ww,mb 4 xx ww=(xx=.pointer (some ⟨gv,0,none⟩)):=fun xx ww=>congrFun (congrFun (congrFun mj 4) xx) ww
     have ergq5:∀ xx ww,mb 5 xx ww=(xx=.int .i64 (wd:Int)):=fun xx ww=>congrFun (congrFun (congrFun mj 5) xx) ww
     have ergq6:∀ xx ww,mb 6 xx ww=((fun x w'=>HeldE cellE (fun b=>wk.heap.size<=b) w' x CL) xx ww):=fun xx ww=>congrFun (congrFun (congrFun mj 6) xx) ww
     have ergq7:∀ xx ww,mb 7 xx ww=((fun x w'=>∃ v,x=.agg #[v,.bool wp]/\HeldE cellE (fun b=>wk.heap.size<=b) w' v CL) xx ww):=fun xx ww=>congrFun (congrFun (congrFun mj 7) xx) ww
     have ergq8:∀ xx ww,mb 8 xx ww=((fun x w'=>HeldE lineE (fun b=>wk.heap.size<=b) w' x [(CL,wp)]) xx ww):=fun xx ww=>congrFun (congrFun (congrFun mj 8) xx) ww
     have ergq9:∀ xx ww,mb 9 xx ww=((fun x w'=>OwnE lineE (fun b=>gv<b) w' (gv+1) 69 x (A++[(CL,wp)])) xx ww):=fun xx ww=>congrFun (congrFun (congrFun mj 9) xx) ww
     have ergq10:∀ xx ww,mb 10 xx ww=(xx=.pointer (some ⟨gv,2,none⟩)):=fun xx ww=>congrFun (congrFun (congrFun mj 10) xx) ww
     have ergq11:∀ xx ww,mb 11 xx ww=(xx=undef):=fun xx ww=>congrFun (congrFun (congrFun mj 11) xx) ww
     obtain ⟨m0,oT⟩ : ∃ CC:Array Bool->World->Prop,CC=fun L w'=>(Mix.one L 6=0->Below wk.heap.size wk w')/\(Mix.one L 9=0->Upd (fun b=>b=g) wk w')/\(Mix.one L 11=0->Upd (fun b=>b=g\/(Value.slice ao n cap).ownBlock=some b) wk w')/\(Mix.one L 6=1->RdAt s0 w' g y2 e2)/\(Mix.one L 11=1->(∃ v,Has w' gv [Value.int .i64 (wd:Int),.int .i64 (hg:Int),v,.int .i64 (rr:Int),.int .i64 (cc:Int),.bool pd,.bool au] 44/\OwnE lineE (fun b=>gv<b) w' (gv+1) 69 v (A++[(CL,wp)]))/\Upd (fun b=>b=g\/b=gv\/(Value.slice ao n cap).ownBlock=some b) wk w'):=⟨_,rfl⟩
     have krgq:∀ i L w,i≠6->i≠9->i≠11 ->  m0 L w->m0 (L.setIfInBounds i true) w:=by
      intro i L w q6 q9 q11 h;rw [oT] at h ⊢;simp only [Mix.one_ne q6,Mix.one_ne q9,Mix.one_ne q11];exact h
     obtain ⟨ng,pM⟩ : ∃ XX:Nat->World->World->Prop,XX=fun kk ww1 ww2=>if kk=9 then (fun x y=>Upd (fun b=>(Value.slice ao n cap).ownBlock=some b) x y) ww1 ww2 else (fun x y=>Upd (fun b=>b=g\/b=gv) x y) ww1 ww2:=⟨_,rfl⟩
     have xrgq:∀ {k:Nat} (w:World),ng k w w:=by
      intro k w;rw [pM];show if k=9 then _ else _
      split
      ·exact Upd.refl _ _
      ·exact Upd.refl _ _
     have crgq:m0 (Array.replicate 12 false) wk.drew:=by rw [oT];exact ⟨fun _=>(Below.refl _ _).drew,fun _=>(Upd.refl _ _).drew,fun _=>(Upd.refl _ _).drew,fun e=>absurd e (by decide),fun e=>absurd e (by decide)⟩
     have brgq:∀ L w w1,m0 L w->Below w.heap.size w w1->m0 L w1:=by
      intro L w w1 h hb;rw [oT] at h ⊢
      (obtain ⟨q1,q2,q3,q4,q5⟩:=h;exact ⟨fun e=>(q1 e).trans (hb.mono (q1 e).size),fun e=>(q2 e).trans (.ofBelow hb),fun e=>(q3 e).trans (.ofBelow hb),fun e=>(q4 e).below hb,fun e=>by obtain ⟨⟨v,a1,a2⟩,a3⟩:=q5 e;exact ⟨⟨v,a1.below hb a1.lt,a2.below hb⟩,a3.trans (.ofBelow hb)⟩⟩)
     have xbrgq:∀ {k:Nat} (w w1:World),Below w.heap.size w w1->ng k w w1:=by
      intro k w w1 hb;rw [pM];show if k=9 then _ else _
      split
      ·exact Upd.ofBelow hb
      ·exact Upd.ofBelow hb
     have Hrgqb:=aa brgq;have Hrgqxb:Hid (∀ {k:Nat} (w w1:World),Below w.heap.size w w1->ng k w w1):=@xbrgq;clear brgq xbrgq;have pz:=aa mj;clear mj;have mJ:=aa krgq;have mW:Hid (∀ {k:Nat} (w:World),ng k w w):=@xrgq;have Hrgqc:=aa crgq;have mf:=aa oT;have nG:=aa pM;have nA:=aa ergq0;have nZ:=aa ergq1;have nQ:=aa ergq2;have nK:=aa ergq3;have nW:=aa ergq4;have nC:=aa ergq5;have n6:=aa ergq6;have nO:=aa ergq7;have nD:=aa ergq8;have oJ:=aa ergq9;have mU:=aa ergq10;have ns:=aa ergq11;clear krgq xrgq crgq oT pM ergq0 ergq1 ergq2 ergq3 ergq4 ergq5 ergq6 ergq7 ergq8 ergq9 ergq10 ergq11
     go_wp2_with fail
     refine RegX.regionF mb m0 ng ?_ (by kernel_rfl) (by kernel_rfl) (by kernel_rfl) Hrgqc.out (fun Frgq mg=>?_)
     ·intro ii jj x w w1 oc hr hx h;rw [nG.out] at hx
      by_cases hi:ii=9
      ·subst hi;simp only [if_pos] at hx
       match jj with
       |0=>rw [nA.out] at h ⊢;exact h
       |1=>rw [nZ.out] at h ⊢;exact h
       |2=>rw [nQ.out] at h ⊢;exact h
       |3=>rw [nK.out] at h ⊢;exact h
       |4=>rw [nW.out] at h ⊢;exact h
       |5=>rw [nC.out] at h ⊢;exact h
       |6=>rw [n6.out] at h ⊢;(first | exact HeldE.upd h hx (fun b hb e=>by have hb:wk.heap.size<=b:=hb;have:=(pS.out.lt b e).2;omega) | (obtain ⟨v,e1,h⟩:=h;exact ⟨v,e1,HeldE.upd h hx (fun b hb e=>by have hb:wk.heap.size<=b:=hb;have:=(pS.out.lt b e).2;omega)⟩))
       |7=>rw [nO.out] at h ⊢;(first | exact HeldE.upd h hx (fun b hb e=>by have hb:wk.heap.size<=b:=hb;have:=(pS.out.lt b e).2;omega) | (obtain ⟨v,e1,h⟩:=h;exact ⟨v,e1,HeldE.upd h hx (fun b hb e=>by have hb:wk.heap.size<=b:=hb;have:=(pS.out.lt b e).2;omega)⟩))
       |8=>rw [nD.out] at h ⊢;(first | exact HeldE.upd h hx (fun b hb e=>by have hb:wk.heap.size<=b:=hb;have:=(pS.out.lt b e).2;omega) | (obtain ⟨v,e1,h⟩:=h;exact ⟨v,e1,HeldE.upd h hx (fun b hb e=>by have hb:wk.heap.size<=b:=hb;have:=(pS.out.lt b e).2;omega)⟩))
       |9=>exact absurd rfl oc
       |10=>rw [mU.out] at h ⊢;exact h
       |11=>rw [ns.out] at h ⊢;exact h
       |jj+12=>rw [pz.out];trivial
      ·simp only [if_neg hi] at hx
       match jj with
       |0=>rw [nA.out] at h ⊢;exact h
       |1=>rw [nZ.out] at h ⊢;exact h
       |2=>rw [nQ.out] at h ⊢;exact h
       |3=>rw [nK.out] at h ⊢;exact h
       |4=>rw [nW.out] at h ⊢;exact h
       |5=>rw [nC.out] at h ⊢;exact h
       |6=>rw [n6.out] at h ⊢;(first | exact HeldE.upd h hx (fun b hb e=>by have hb:wk.heap.size<=b:=hb;rcases e with e | e <;> omega) | exact OwnE.upd h hx (fun b hb e=>by rcases hb with hb | hb;(have hb:gv<b:=hb;rcases e with e | e <;> omega);(have:=(OwnE.lt h b hb).1;rcases e with e | e <;> omega)) | (obtain ⟨v,e1,h⟩:=h;exact ⟨v,e1,HeldE.upd h hx (fun b hb e=>by have hb:wk.heap.size<=b:=hb;rcases e with e | e <;> omega)⟩))
       |7=>rw [nO.out] at h ⊢;(first | exact HeldE.upd h hx (fun b hb e=>by have hb:wk.heap.size<=b:=hb;rcases e with e | e <;> omega) | exact OwnE.upd h hx (fun b hb e=>by rcases hb with hb | hb;(have hb:gv<b:=hb;rcases e with e | e <;> omega);(have:=(OwnE.lt h b hb).1;rcases e with e | e <;> omega)) | (obtain ⟨v,e1,h⟩:=h;exact ⟨v,e1,HeldE.upd h hx (fun b hb e=>by have hb:wk.heap.size<=b:=hb;rcases e with e | e <;> omega)⟩))
       |8=>rw [nD.out] at h ⊢;(first | exact HeldE.upd h hx (fun b hb e=>by have hb:wk.heap.size<=b:=hb;rcases e with e | e <;> omega) | exact OwnE.upd h hx (fun b hb e=>by rcases hb with hb | hb;(have hb:gv<b:=hb;rcases e with e | e <;> omega);(have:=(OwnE.lt h b hb).1;rcases e with e | e <;> omega)) | (obtain ⟨v,e1,h⟩:=h;exact ⟨v,e1,HeldE.upd h hx (fun b hb e=>by have hb:wk.heap.size<=b:=hb;rcases e with e | e <;> omega)⟩))
       |9=>rw [oJ.out] at h ⊢;(first | exact HeldE.upd h hx (fun b hb e=>by have hb:wk.heap.size<=b:=hb;rcases e with e | e <;> omega) | exact OwnE.upd h hx (fun b hb e=>by rcases hb with hb | hb;(have hb:gv<b:=hb;rcases e with e | e <;> omega);(have:=(OwnE.lt h b hb).1;rcases e with e | e <;> omega)) | (obtain ⟨v,e1,h⟩:=h;exact ⟨v,e1,HeldE.upd h hx (fun b hb e=>by have hb:wk.heap.size<=b:=hb;rcases e with e | e <;> omega)⟩))
       |10=>rw [mU.out] at h ⊢;exact h
       |11=>rw [ns.out] at h ⊢;exact h
       |jj+12=>rw [pz.out];trivial
     simp only [Reg.frame,Reg.dsts,List.map_cons,List.map_nil,Mix.put_lit,Reg.put_none,List.set_cons_succ,List.set_cons_zero,Nat.zero_add,Nat.reduceAdd] at mg;refine ⟨?_,?_⟩
     ·refine ⟨?_,?_,?_,?_,?_,?_,?_,?_,?_,?_,?_,?_,trivial⟩
      ·intro Lq wq xq hh;simp only [mg];refine .inl ⟨rfl,?_⟩;unfold Reg.upon;have hk:=mJ.out 0 Lq wq (by decide) (by decide) (by decide)  hh.cls;have hx:ng 0 wq wq:=mW.out wq;have he:mb 0 (.pointer (some ⟨gv,2,none⟩)) wq:=by rw [nA.out]
       have HK:=aa (And.intro hk (And.intro he hx));clear hk hx he;go_simp;exact HK.out
      ·intro Lq wq xq hh;have d0:mb 0 (xq 0) wq:=hh.val 0 (by kernel_rfl) (by kernel_rfl);rw [nA.out] at d0;simp only [mg,d0];clear d0;refine .inl ⟨rfl,?_⟩;unfold Reg.upon;have hc:m0 Lq wq:=hh.cls;rw [mf.out] at hc;have q0:=((hc.2.1 (Mix.one_un (hh.notYet 9 (by kernel_rfl)))).keep.has rF.out (fun e=>by omega)).cell 2 _ rfl;clear hc;have hk:=mJ.out 1 Lq wq (by decide) (by decide) (by decide)  hh.cls;have hx:ng 1 wq wq:=mW.out wq;have he:mb 1 (.slice ao n cap) wq:=by rw [nZ.out]
       have HK:=aa (And.intro hk (And.intro he hx));clear hk hx he;go_simp;exact HK.out
      ·intro Lq wq xq hh;simp only [mg];refine .inl ⟨rfl,?_⟩;unfold Reg.upon;have hk:=mJ.out 2 Lq wq (by decide) (by decide) (by decide)  hh.cls;have hx:ng 2 wq wq:=mW.out wq;have he:mb 2 (.bool wp) wq:=by rw [nQ.out]
       have HK:=aa (And.intro hk (And.intro he hx));clear hk hx he;go_simp;exact HK.out
      ·intro Lq wq xq hh;simp only [mg];refine .inl ⟨rfl,?_⟩;unfold Reg.upon;have hk:=mJ.out 3 Lq wq (by decide) (by decide) (by decide)  hh.cls;have hx:ng 3 wq wq:=mW.out wq;have he:mb 3 (.pointer (some ⟨g,0,none⟩)) wq:=by rw [nK.out]
       have HK:=aa (And.intro hk (And.intro he hx));clear hk hx he;go_simp;exact HK.out
      ·intro Lq wq xq hh;simp only [mg];refine .inl ⟨rfl,?_⟩;unfold Reg.upon;have hk:=mJ.out 4 Lq wq (by decide) (by decide) (by decide)  hh.cls;have hx:ng 4 wq wq:=mW.out wq;have he:mb 4 (.pointer (some ⟨gv,0,none⟩)) wq:=by rw [nW.out]
       have HK:=aa (And.intro hk (And.intro he hx));clear hk hx he;go_simp;exact HK.out
      ·intro Lq wq xq hh;have d4:mb 4 (xq 4) wq:=hh.val 4 (by kernel_rfl) (by kernel_rfl);rw [nW.out] at d4;simp only [mg,d4];clear d4;refine .inl ⟨rfl,?_⟩;unfold Reg.upon;have hc:m0 Lq wq:=hh.cls;rw [mf.out] at hc;have q0:=((hc.2.1 (Mix.one_un (hh.notYet 9 (by kernel_rfl)))).keep.has rF.out (fun e=>by omega)).cell 0 _ rfl;clear hc;have hk:=mJ.out 5 Lq wq (by decide) (by decide) (by decide)  hh.cls;have hx:ng 5 wq wq:=mW.out wq;have he:mb 5 (.int .i64 (wd:Int)) wq:=by rw [nC.out]
       have HK:=aa (And.intro hk (And.intro he hx));clear hk hx he;go_simp;exact HK.out
      ·intro Lq wq xq hh;have d3:mb 3 (xq 3) wq:=hh.val 3 (by kernel_rfl) (by kernel_rfl);rw [nK.out] at d3;have d5:mb 5 (xq 5) wq:=hh.val 5 (by kernel_rfl) (by kernel_rfl);rw [nC.out] at d5;simp only [mg,d3,d5];clear d3 d5;refine .inl ⟨rfl,?_⟩;unfold Reg.upon;have hc:m0 Lq wq:=hh.cls;rw [mf.out] at hc;have hb:=hc.1 hh.un;have hq:=iy s0 g wd y1 e1 wq (HRk.out.below hb) pG rs;rw [HCC2.out] at hq;have n9:=hc.2.1 (Mix.one_un (hh.notYet 9 (by kernel_rfl)));have n11:=hc.2.2.1 (Mix.one_un (hh.notYet 11 (by kernel_rfl)));go_simp;refine hq.mono ?_;rintro e w2 ⟨v6,rfl,ho,hr,hu⟩;have hH:HeldE cellE (fun b=>wk.heap.size<=b) w2 v6 CL:=(ho.held (fun b h _=>h)).zone (fun b _ hz=>Nat.le_trans hb.size hz);have hF:m0 (Lq.setIfInBounds 6 true) w2:=by
        rw [mf.out];refine ⟨fun e=>?_,fun _=>n9.trans hu,fun _=>n11.trans (hu.mono fun b _ e=>.inl e),fun _=>hr,fun e=>?_⟩
        ·rw [Mix.one_set (by rw [hh.size];decide)] at e;exact absurd e (by decide)
        ·rw [Mix.one_ne (by decide),Mix.one_un (hh.notYet 11 (by kernel_rfl))] at e;cases e
       exact ⟨_,rfl,hF,(by rw [n6.out];exact hH),(by rw [nG.out];exact hu.mono fun b _ e=>.inl e)⟩
      ·intro Lq wq xq hh;have d2:mb 2 (xq 2) wq:=hh.val 2 (by kernel_rfl) (by kernel_rfl);rw [nQ.out] at d2;have d6:mb 6 (xq 6) wq:=hh.val 6 (by kernel_rfl) (by kernel_rfl);rw [n6.out] at d6;simp only [mg,d2];clear d2;refine .inl ⟨rfl,?_⟩;unfold Reg.upon;obtain ⟨a6,c6,e6⟩:=d6.len;rw [e6] at d6;rw [fh rfl rfl e6];exact ⟨mJ.out 7 Lq wq (by decide) (by decide) (by decide) hh.cls,(by rw [nO.out];exact ⟨_,rfl,d6⟩),mW.out _⟩
      ·intro Lq wq xq hh;have d7:mb 7 (xq 7) wq:=hh.val 7 (by kernel_rfl) (by kernel_rfl);rw [nO.out] at d7;simp only [mg];refine .inl ⟨rfl,?_⟩;unfold Reg.upon;have hc:m0 Lq wq:=hh.cls;rw [mf.out] at hc;have n9:=(hc.2.1 (Mix.one_un (hh.notYet 9 (by kernel_rfl)))).size;obtain ⟨v7,e7,h7⟩:=d7;obtain ⟨a7,c7,q7⟩:=h7.len;subst q7;rw [fj rfl e7];have hb:=(Below.refl (wq).heap.size wq).alloc (Nat.le_refl _) (.cells [Value.slice a7 CL.length c7,.bool wp].toArray 69);refine ⟨mJ.out 8 Lq _ (by decide) (by decide) (by decide) (Hrgqb.out Lq wq _ hh.cls hb),?_,Hrgqxb.out wq _ hb⟩;rw [nD.out];exact cE (E:=lineE) (w:=wq) (ty:=69) (Y:=fun b=>wk.heap.size<=b) (Z:=fun b=>wk.heap.size<=b) [.slice a7 CL.length c7,.bool wp] (CL,wp) (line_rep.2 ⟨_,rfl,h7⟩) (fun _ _ h=>h) n9
      ·intro Lq wq xq hh;have d1:mb 1 (xq 1) wq:=hh.val 1 (by kernel_rfl) (by kernel_rfl);rw [nZ.out] at d1;have d8:mb 8 (xq 8) wq:=hh.val 8 (by kernel_rfl) (by kernel_rfl);rw [nD.out] at d8;simp only [mg,d1];clear d1;refine .inl ⟨rfl,?_⟩;unfold Reg.upon;have hc:m0 Lq wq:=hh.cls;rw [mf.out] at hc;have vv:=hc.2.1 hh.un;have hc11:=hc.2.2.1 (Mix.one_un (hh.notYet 11 (by kernel_rfl)));have hc6:=hc.2.2.2.1 (hh.isDone 6 (by kernel_rfl));have how:=pS.out.upd vv (fun b hb e=>by rcases hb with hb | hb;(have hb:gv<b:=hb;have e:b=g:=e;omega);(have:=(pS.out.lt b hb).1;have e:b=g:=e;omega));obtain ⟨v',w',hr,h1,h2,h3,h4⟩:=cO (P:=Tryd.prog) (E:=lineE) (Z:=fun b=>gv<b) (w:=wq) (B:=gv+1) (ty:=69) 29 _ (.agg #[.slice none 0 0,.bool false]) 32 Tryd.underlying29 jy rfl (by decide) how (d8.zone (Y:=fun b=>gv<b/\(Value.slice ao n cap).ownBlock≠some b) (fun b _ hz=>⟨by have hz:wk.heap.size<=b:=hz;omega,fun e=>by have hz:wk.heap.size<=b:=hz;have:=(pS.out.lt b e).2;omega⟩)) (by rw [<-oK.out];simp;omega) (by rw [<-oK.out];simp;omega) (by have:=vv.size;omega);have hu:Upd (fun b=>(Value.slice ao n cap).ownBlock=some b) wq w':=⟨h2.os,h2.tape,h2.output,h3.size,fun b hb hn=>h3.block b hb hn⟩;rw [eR rfl rfl rfl hr];refine ⟨?_,?_,?_⟩
       ·rw [mf.out];refine ⟨fun e=>?_,fun e=>?_,fun _=>hc11.trans (hu.mono fun b _ e=>.inr e),fun _=>hc6.upd hu (fun b e=>by have:=(pS.out.lt b e).1;omega),fun e=>?_⟩
        ·have:=hh.isDone 6 (by kernel_rfl);rw [Mix.one_ne (by decide),this] at e;cases e
        ·rw [Mix.one_set (by rw [hh.size];decide)] at e;exact absurd e (by decide)
        ·rw [Mix.one_ne (by decide),Mix.one_un (hh.notYet 11 (by kernel_rfl))] at e;cases e
       ·rw [oJ.out];exact h1
       ·rw [nG.out];exact hu
      ·intro Lq wq xq hh;simp only [mg];refine .inl ⟨rfl,?_⟩;unfold Reg.upon;have hk:=mJ.out 10 Lq wq (by decide) (by decide) (by decide)  hh.cls;have hx:ng 10 wq wq:=mW.out wq;have he:mb 10 (.pointer (some ⟨gv,2,none⟩)) wq:=by rw [mU.out]
       have HK:=aa (And.intro hk (And.intro he hx));clear hk hx he;go_simp;exact HK.out
      ·intro Lq wq xq hh;have d9:mb 9 (xq 9) wq:=hh.val 9 (by kernel_rfl) (by kernel_rfl);rw [oJ.out] at d9;have d10:mb 10 (xq 10) wq:=hh.val 10 (by kernel_rfl) (by kernel_rfl);rw [mU.out] at d10;simp only [mg,d10];clear d10;refine .inl ⟨rfl,?_⟩;unfold Reg.upon;have hc:m0 Lq wq:=hh.cls;rw [mf.out] at hc;have vv:=hc.2.2.1 hh.un;obtain ⟨a5,c5,e5⟩:=(d9.held (fun _ h _=>h)).len;have hrow:=vv.keep.has rF.out (fun e=>by rcases e with e | e;omega;have:=(pS.out.lt _ e).1;omega);have hcel:=hrow.cell 2 _ rfl;have hfre:=hrow.free 2;have hset:=hrow.set 2 (xq 9);have qM:=(Upd.refl (fun b=>b=gv) wq).setCell (p:=⟨gv,2,none⟩) (.inl rfl) (xq 9);have oy:=d9.upd qM (fun b hb e=>by have e:b=gv:=e;rcases hb with hb | hb;(have hb:gv<b:=hb;omega);(have:=(d9.lt b hb).1;omega));have hr3:=(hc.2.2.2.1 (hh.isDone 6 (by kernel_rfl))).upd qM (fun b e=>by have e:b=gv:=e;omega);have pR:=(vv.mono (T:=fun b=>b=g\/b=gv\/(Value.slice ao n cap).ownBlock=some b) (fun b _ e=>by rcases e with e | e;exact .inl e;exact .inr (.inr e))).trans (qM.mono (fun b _ e=>.inr (.inl e)));rw [e5] at hset qM hr3 pR;rw [e5] at oy;rw [fm (b:=gv) (off:=2) rfl rfl e5 _ hcel hfre (by kernel_rfl)];refine ⟨?_,by rw [ns.out],by rw [nG.out];exact qM.mono fun b _ e=>.inr e⟩;rw [mf.out];refine ⟨fun e=>?_,fun e=>?_,fun e=>?_,fun _=>hr3,fun _=>⟨⟨_,hset,oy⟩,pR⟩⟩
       ·have:=hh.isDone 6 (by kernel_rfl);rw [Mix.one_ne (by decide),this] at e;cases e
       ·have:=hh.isDone 9 (by kernel_rfl);rw [Mix.one_ne (by decide),this] at e;cases e
       ·rw [Mix.one_set (by rw [hh.size];decide)] at e;exact absurd e (by decide)
     intro xq py hcrgq hvrgq;rw [mf.out] at hcrgq;simp only [mg];clear hvrgq mg mJ mW pz Hrgqc mf nG Hrgqb Hrgqxb nA nZ nQ nK nW nC n6 nO nD oJ mU ns;obtain ⟨_,_,_,k4,k5⟩:=hcrgq;have k4:=k4 (by kernel_rfl);obtain ⟨⟨v,k5,k6⟩,k7⟩:=k5 (by kernel_rfl);have HUx:=aa (show Upd (fun b=>b=g) w py from ⟨tL.out.os.symm ▸ k7.os,tL.out.tape.symm ▸ k7.tape,tL.out.output.symm ▸ k7.output,Nat.le_trans tL.out.size k7.size,fun b hb hn=>(k7.block b (by have:=tL.out.size;omega) (fun e=>by
      rcases e with e | e | e
      ·exact hn e
      ·have:=oq.out;omega
      ·have:=(pS.out.lt b e).1;have:=oq.out;omega)).trans (tL.out.block b hb hn)⟩)
     have hgr2:=k7.keep.has HGRk.out (fun e=>by
      rcases e with e | e | e
      ·omega
      ·omega
      ·have:=(pS.out.lt _ e).1;omega)
     obtain ⟨a2,c2,ev⟩:=(k6.held (fun _ h _=>h)).len;obtain ⟨A2,tG⟩:=ab (A++[(CL,wp)]);have hl2:A2.length=i+1:=by rw [tG,List.length_append,List.length_singleton,oK.out]
     rw [<-tG] at ev k6 wn;rw [hl2] at ev;subst ev;have hszx:gv<py.heap.size:=k5.lt;have HF:=aa (show i+1=i+1/\i+1=A2.length/\fV wd (hg - (i+1)) A2 y2 e2=R/\y2.length<=1000000/\(e2=false->wd<=1024/\hg<=1024)/\Has py gr [Value.int .i64 0,.int .i64 0,.slice none 0 0,.int .i64 0,.int .i64 0,.bool false,.bool false] 44/\Has py gv [Value.int .i64 (wd:Int),.int .i64 (hg:Int),.slice a2 (i+1) c2,.int .i64 (rr:Int),.int .i64 (cc:Int),.bool pd,.bool au] 44/\OwnE lineE (fun b=>gv<b) py (gv+1) 69 (.slice a2 (i+1) c2) A2/\RdAt s0 py g y2 e2/\Upd (fun b=>b=g) w py from ⟨rfl,hl2.symm,wn.out,hy2,fun _=>⟨rs,hhm⟩,hgr2,k5,k6,k4,HUx.out⟩);clear k4 k5 k6 k7 hgr2 tG hl2;go_wp2
     go_roundw
     case rel=>exact ⟨i+1,i+1,c2,a2,A2,y2,e2,by first | rfl | go_num,by omega,hszx,HF⟩
     case measure=>simp [intOf] <;> omega
    |false =>
     have uF:=aa (show R=(A,ys,bd) from by
      rw [<-HS.out.2.2.1];have ht:=mi.out
      by_cases hlt:i<hg
      ·rw [decide_eq_true hlt] at ht;have hb:bd=true:=by cases bd;exact absurd ht (by decide);rfl
       subst hb
       cases hg - i with
       |zero=>rfl
       |succ f=>exact if_pos rfl
      ·rw [show hg - i=0 from by omega];rfl)
     have rL:=aa (show bC xs=(⟨wd,hg,A,rr,cc,pd,au⟩,ys,bd) from by
      unfold bC;simp only [HE.out];rw [<-uf.out,uF.out,wI.out,HAU.out]
      rfl)
     have hgrq:=HS.out.2.2.2.2.2.1;have hgvq:=HS.out.2.2.2.2.2.2.1;have HF:=aa (And.intro HS.out.2.2.2.2.2.2.2.1 (And.intro HS.out.2.2.2.2.2.2.2.2.1 HS.out.2.2.2.2.2.2.2.2.2));clear HS mi uF
     go_upto_region 13 with (fail)
     go_wp2_with (first | (refine be rfl 44 (.tmp 3) rfl gv rfl 44 _ _ 7 hgvq Tryd.underlying44 rfl aU rfl ?_) | (refine cG rfl 44 (.tmp 2) (.tmp 74) rfl gr rfl 44 [Value.int .i64 0,.int .i64 0,.slice none 0 0,.int .i64 0,.int .i64 0,.bool false,.bool false] [Value.int .i64 (wd:Int),.int .i64 (hg:Int),.slice ao n cap,.int .i64 (rr:Int),.int .i64 (cc:Int),.bool pd,.bool au] 7 rfl hgrq aU rfl rfl (by simp [Value.oneCell']) ?_;intro wz hz qE))
     obtain ⟨hO,hRD,hU⟩:=HF.out;have sB:Upd (fun b=>b=gr) wq wz:=⟨qE.os,qE.tape,qE.output,qE.size,fun b hb hn=>qE.block b hb hn⟩;have oB:Upd (fun b=>b=g) w wz:=⟨hU.os.symm ▸ sB.os,hU.tape.symm ▸ sB.tape,hU.output.symm ▸ sB.output,Nat.le_trans hU.size sB.size,fun b hb hn=>(sB.block b (by have:=hU.size;omega) (fun e=>by have e:b=gr:=e;have:=oq.out;omega)).trans (hU.block b hb hn)⟩;have hhz:HeldE lineE (fun b=>w.heap.size<=b) wz (.slice ao n cap) A:=((hO.held (fun _ h _=>h)).zone (Y:=fun b=>w.heap.size<=b/\b≠gr) (fun b _ h=>by have h:gv<b:=h;have:=oq.out;constructor <;> omega)).upd sB (fun b hb e=>hb.2 e) |>.zone (fun b _ h=>h.1)
     have hrz:=hRD.upd sB (fun b e=>by have e:b=gr:=e;omega);exact bodyPost_ret (v:=.agg [Value.int .i64 (wd:Int),.int .i64 (hg:Int),.slice ao n cap,.int .i64 (rr:Int),.int .i64 (cc:Int),.bool pd,.bool au].toArray) (g5 Tryd.results55 _ _ gr 44 [Value.int .i64 (wd:Int),.int .i64 (hg:Int),.slice ao n cap,.int .i64 (rr:Int),.int .i64 (cc:Int),.bool pd,.bool au] _ 7 rfl hz Tryd.underlying44 rfl aU rfl) rfl ⟨.slice ao n cap,by rw [rL.out];rfl,by rw [rL.out];exact hhz,by rw [rL.out];exact hrz,oB,by rw [rL.out];exact ⟨Int.natCast_nonneg _,by show (wd:Int)<2097152;omega,Int.natCast_nonneg _,by show (hg:Int)<2097152;omega⟩⟩
end Go.Proofs.YtechjomepdahiaaDoor
