import Derived.Test.YtoeggiplcaegoaaGreatDoorZ0
import Derived.Test.YtoeggiplcaegoaaGreatDoorMg8
import Derived.Test.YtoeggiplcaegoaaGreatDoorCellP
import Derived.Test.YtoeggiplcaegoaaGreatDoorCursorE
import Derived.Test.YtoeggiplcaegoaaGreatDoorMg7
import Derived.Deep.Cut
import Derived.Lib.MinMax
set_option maxRecDepth 100000
set_option linter.unusedVariables false
set_option linter.unusedSimpArgs false
set_option maxHeartbeats 3000000
namespace Go.Proofs.YtoeggiplcaegoaaGreatDoor
open Go.RowKit Go.ChangeShapes Go.WideShapes
def ZN(Z:an)(w:World):an:=fun b=>Z b\/w.heap.size+3<=b
def RSt(Z:an)(w:World)(Ls:List Ln)(r c:Int)(pd au:Bool)(tv:Value)(ys:List Int)(wx:World):Prop :=
 ∃ o k,Has wx w.heap.size [.slice o Ls.length k,.int .i64 r,.int .i64 c,.bool pd,.bool au] 43/\Has wx (w.heap.size+1) [.slice none 0 0,.int .i64 0,.int .i64 0,.bool false,.bool false] 43/\Has wx (w.heap.size+2) [.int .i64 0,.int .i64 0,.bool false] 24 /\
  HeldE lineE (ZN Z w) wx (.slice o Ls.length k) Ls/\HeldE (aF .i32) (ZN Z w) wx tv ys/\Below w.heap.size w wx/\w.heap.size+3<=wx.heap.size
section
variable {Z : an} {w w1 w2 : World} {Ls L2 : List Ln} {r c r2 c2 : Int} {pd au pd2 au2 : Bool} {tv : Value} {ys : List Int}
theorem RSt.below(h:RSt Z w Ls r c pd au tv ys w1)(hb:Below w1.heap.size w1 w2):RSt Z w Ls r c pd au tv ys w2:=by
 obtain ⟨o,k,h1,h2,h3,h4,h5,h6,h7⟩:=h;exact ⟨o,k,h1.below hb h1.lt,h2.below hb h2.lt,h3.below hb h3.lt,h4.below hb,h5.below hb,h6.trans (hb.mono h6.size),Nat.le_trans h7 hb.size⟩
theorem RSt.text(h:RSt Z w Ls r c pd au tv ys w1){u:Value}{zs:List Int}(hu:HeldE (aF .i32) (ZN Z w) w1 u zs):RSt Z w Ls r c pd au u zs w1:=by
 obtain ⟨o,k,h1,h2,h3,h4,h5,h6,h7⟩:=h;exact ⟨o,k,h1,h2,h3,h4,hu,h6,h7⟩
theorem RSt.store(hZ:∀ b,Z b->b<w.heap.size)(h:RSt Z w Ls r c pd au tv ys w1){o:Option Addr}{n k:Nat}(hv:HeldE lineE (ZN Z w) w1 (.slice o n k) L2):RSt Z w L2 r2 c2 pd2 au2 tv ys (((((w1.setCell ⟨w.heap.size,0,none⟩ (.slice o n k)).setCell ⟨w.heap.size,1,none⟩ (.int .i64 r2)).setCell ⟨w.heap.size,2,none⟩ (.int .i64 c2)).setCell ⟨w.heap.size,3,none⟩ (.bool pd2)).setCell ⟨w.heap.size,4,none⟩ (.bool au2)):=by
 obtain ⟨o',k',h1,h2,h3,h4,h5,h6,h7⟩:=h;obtain ⟨o9,k9,e9⟩:=hv.len;simp only [Value.slice.injEq] at e9;obtain ⟨rfl,rfl,rfl⟩:=e9;have hu:=aR (W:=w1) w.heap.size (.slice o L2.length k) (.int .i64 r2) (.int .i64 c2) (.bool pd2) (.bool au2);have hz:∀ b,ZN Z w b->¬ b=w.heap.size:=fun b hb e=>by rcases hb with hb | hb;have:=hZ b hb;omega;omega
 exact ⟨o,k,cJ h1 _ _ _ _ _,hu.keep.has h2 (fun e=>by omega),hu.keep.has h3 (fun e=>by omega),hv.upd hu hz,h5.upd hu hz,iC (g:=w.heap.size) h6 (Nat.le_refl _) _ _ _ _ _,Nat.le_trans h7 hu.size⟩
theorem RSt.put(hZ:∀ b,Z b->b<w.heap.size)(h:RSt Z w Ls r c pd au tv ys w1)(hb:Below w1.heap.size w1 w2){o:Option Addr}{n k:Nat}(hv:HeldE lineE (fun b=>(ZN Z w b/\b<w1.heap.size)\/(w1.heap.size<=b/\b<w2.heap.size)) w2 (.slice o n k) L2):RSt Z w L2 r2 c2 pd2 au2 tv ys (((((w2.setCell ⟨w.heap.size,0,none⟩ (.slice o n k)).setCell ⟨w.heap.size,1,none⟩ (.int .i64 r2)).setCell ⟨w.heap.size,2,none⟩ (.int .i64 c2)).setCell ⟨w.heap.size,3,none⟩ (.bool pd2)).setCell ⟨w.heap.size,4,none⟩ (.bool au2)):=by
 have h7:=h;obtain ⟨_,_,_,_,_,_,_,_,h8⟩:=h7;exact (h.below hb).store hZ (hv.zone fun b _ hz=>by rcases hz with hz | hz;exact hz.1;exact .inr (by omega))
theorem RSt.cur(hZ:∀ b,Z b->b<w.heap.size)(h:RSt Z w Ls r c pd au tv ys w1)(r2 c2:Int)(pd2:Bool):RSt Z w Ls r2 c2 pd2 au tv ys (((w1.setCell ⟨w.heap.size,1,none⟩ (.int .i64 r2)).setCell ⟨w.heap.size,2,none⟩ (.int .i64 c2)).setCell ⟨w.heap.size,3,none⟩ (.bool pd2)):=by
 obtain ⟨o,k,h1,h2,h3,h4,h5,h6,h7⟩:=h;obtain ⟨W',hW,g1,g2,g3,hu⟩:=yb h1 h2 h6 (Nat.le_refl _) (.int .i64 r2) (.int .i64 c2) (.bool pd2);rw [<-hW];have hz:∀ b,ZN Z w b->¬ b=w.heap.size:=fun b hb e=>by rcases hb with hb | hb;have:=hZ b hb;omega;omega
 exact ⟨o,k,g1,g2,hu.keep.has h3 (fun e=>by omega),h4.upd hu hz,h5.upd hu hz,g3,Nat.le_trans h7 hu.size⟩
theorem RSt.col(hZ:∀ b,Z b->b<w.heap.size)(h:RSt Z w Ls r c pd au tv ys w1)(c2:Int):RSt Z w Ls r c2 pd au tv ys (w1.setCell ⟨w.heap.size,2,none⟩ (.int .i64 c2)):=by
 obtain ⟨o,k,h1,h2,h3,h4,h5,h6,h7⟩:=h;have hu:=(Upd.refl (fun x=>x=w.heap.size) w1).setCell (p:=⟨w.heap.size,2,none⟩) (.inl rfl) (.int .i64 c2);have hz:∀ b,ZN Z w b->¬ b=w.heap.size:=fun b hb e=>by rcases hb with hb | hb;have:=hZ b hb;omega;omega
 exact ⟨o,k,h1.set 2 _,hu.keep.has h2 (fun e=>by omega),hu.keep.has h3 (fun e=>by omega),h4.upd hu hz,h5.upd hu hz,h6.trans (((Upd.refl (fun b=>w.heap.size<=b) w1).setCell (p:=⟨w.heap.size,2,none⟩) (.inl (Nat.le_refl _)) _).below h6.size fun _ e=>e),Nat.le_trans h7 hu.size⟩
end
theorem Ae(w:World)(a0 a1 a2 a3 a4:Value):∃ W,W=((w.alloc (.cells #[a0,a1,a2,a3,a4] 43)).alloc (.cells #[Value.slice none 0 0,.int .i64 0,.int .i64 0,.bool false,.bool false] 43)).alloc (.cells #[Value.int .i64 0,.int .i64 0,.bool false] 24) /\
  Has W w.heap.size [a0,a1,a2,a3,a4] 43/\Has W (w.heap.size+1) [Value.slice none 0 0,.int .i64 0,.int .i64 0,.bool false,.bool false] 43/\Has W (w.heap.size+2) [Value.int .i64 0,.int .i64 0,.bool false] 24/\Below w.heap.size w W/\W.heap.size=w.heap.size+3:=by
 refine ⟨_,rfl,((Has.new w _ _).alloc _).alloc _,?_,?_,((AU _ _).alloc (by simp) _).alloc (by simp <;> omega) _,by simp⟩
 ·have:=Has.new (w.alloc (.cells #[a0,a1,a2,a3,a4] 43)) [Value.slice none 0 0,.int .i64 0,.int .i64 0,.bool false,.bool false] 43;exact Has.alloc (by simpa using this) _
 ·have:=Has.new ((w.alloc (.cells #[a0,a1,a2,a3,a4] 43)).alloc (.cells #[Value.slice none 0 0,.int .i64 0,.int .i64 0,.bool false,.bool false] 43)) [Value.int .i64 0,.int .i64 0,.bool false] 24
  simpa using this
theorem uS(Z:an)(v:Value)(Ls:List Ln)(r c:Int)(pd au:Bool)(n:Int)(tv:Value)(xs:List Int)(w:World)(wd:Nat)(hv:HeldE lineE Z w v Ls)(ht:HeldE (aF .i32) Z w tv xs)(hZ:∀ b,Z b->b<w.heap.size)(Cc:Even Ls wd)(r2 c2:Nat)(pd2:Bool)(hr2:inI r (ay Ls.length)=(r2:Int))(hc2:inI c (ay wd)=(c2:Int))(IK:cI c pd wd=pd2)(DX:r2<Ls.length)(hlc:c2<wd) :
  Calls Tryz.prog 77 #[.agg #[v,.int .i64 r,.int .i64 c,.bool pd,.bool au],.int .i64 n,tv] w (fun e w'=>∃ v',e=.returned (.tuple #[.agg #[v',.int .i64 (fx Ls wd r2 c2 pd2 au n:Nat),.int .i64 (eE (dE wd c2 pd2 au n:Nat) (cx wd n) wd),.bool (eF (dE wd c2 pd2 au n:Nat) (cx wd n) wd au),.bool au],.agg #[.int .i64 (fx Ls wd r2 c2 pd2 au n:Nat),.int .i64 (dE wd c2 pd2 au n:Nat),.bool false]]) /\
   HeldE lineE (fun b=>Z b\/(w.heap.size<=b/\b<w'.heap.size)) w' v' (fL Ls wd r2 c2 pd2 au n xs)/\Below w.heap.size w w'):=by
 obtain ⟨ao,ca,rfl⟩:=hv.len;obtain ⟨ta,tc,rfl⟩:=ht.len;obtain ⟨W,hW,hb,hr,hq,hl0,hs⟩:=Ae w (.slice ao Ls.length ca) (.int .i64 r) (.int .i64 c) (.bool pd) (.bool au);have h0:RSt Z w Ls r c pd au (.slice ta xs.length tc) xs W:=⟨ao,ca,hb,hr,hq,(hv.below hl0).zone fun b _ hz=>.inl hz,(ht.below hl0).zone fun b _ hz=>.inl hz,hl0,by omega⟩;have HH:=ab (iu (ZN Z w) (.slice ao Ls.length ca) Ls r c pd au W ((hv.below hl0).zone fun b _ hz=>.inl hz) Cc.1 wd (Cc.2.2.2.2 0 Cc.1));rw [hr2,hc2,IK] at HH;have HB:=ab hb;have HV:=ab ((hv.below hl0).zone (Y:=ZN Z w) fun b _ hz=>.inl hz);have H0:=ab h0;have HZ:=ab hZ;have Ju:=ab Cc;have Kq:=ab DX;have M1:=ab hlc;have hwd:0<wd/\wd<=1024:=⟨Cc.2.2.1,Cc.2.2.2.1⟩;obtain ⟨n0,hn⟩:=ae (Ls.length);have HN:=ab hn;obtain ⟨xn,Lm⟩:=ae (xs.length);rw [<-Lm] at H0 ⊢;rw [<-hn] at hW hb HB HH HV ⊢;have c0:=hb.cell 0 _ rfl;have c1:=hb.cell 1 _ rfl;have c2':=hb.cell 2 _ rfl;have c3:=hb.cell 3 _ rfl;have c4:=hb.cell 4 _ rfl;clear hv ht hZ Cc hr2 hc2 IK hb hr hq hl0 hs h0 hn Lm DX hlc
 go_enter Tryz.func77,Tryz.ntmps77
 go_upto_region 1 with (fail)
 rw [<-hW];clear hW
 go_wp2_with fail
 refine HH.out.mono ?_;rintro e w1 ⟨rfl,b1⟩;clear c0 c1 c2' c3 c4;have h2:=RSt.put (r2:=r2) (c2:=c2) (pd2:=pd2) (au2:=au) HZ.out H0.out b1 ((HV.out.below b1).zone fun b hb hz=>by
  by_cases hlt:b<W.heap.size
  ·exact .inl ⟨hz,hlt⟩
  ·exact .inr ⟨by omega,hb⟩)
 have hb1:=HB.out.below b1 HB.out.lt;have f0:=hb1.free 0;have f1:=hb1.free 1;have f2:=hb1.free 2;have f3:=hb1.free 3;have f4:=hb1.free 4;have c0:=hb1.cell 0 _ rfl;have c1:=hb1.cell 1 _ rfl;have c2':=hb1.cell 2 _ rfl;have c3:=hb1.cell 3 _ rfl;have c4:=hb1.cell 4 _ rfl;have IG:=ab h2;clear h2 b1 hb1 HB HH HV H0
 go_upto_region 2 with (fail)
 obtain ⟨W2,hW2⟩:=ae ((((((w1.setCell ⟨w.heap.size,0,none⟩ (.slice ao n0 ca)).setCell ⟨w.heap.size,1,none⟩ (.int .i64 r2)).setCell ⟨w.heap.size,2,none⟩ (.int .i64 c2)).setCell ⟨w.heap.size,3,none⟩ (.bool pd2)).setCell ⟨w.heap.size,4,none⟩ (.bool au)));rw [<-hW2] at IG ⊢;clear hW2 c0 c1 c2' c3 c4 f0 f1 f2 f3 f4;obtain ⟨o,k,h1,_,_,h4,_⟩:=IG.out;have JD:=sP (ZN Z w) (.slice o Ls.length k) Ls r2 c2 pd2 au W2 h4 Ju.out.1;rw [Ju.out.2.2.2.2 0 Ju.out.1] at JD;have c0:=h1.cell 0 _ rfl;have c1:=h1.cell 1 _ rfl;have c2':=h1.cell 2 _ rfl;have c3:=h1.cell 3 _ rfl;have c4:=h1.cell 4 _ rfl;clear h1 h4
 go_upto_region 3 with (fail)
 obtain ⟨k0,Ex⟩ : ∃ k0,max 1 (min n 2)=k0:=⟨_,rfl⟩;rw [Ex]
 go_wp2_with fail
 refine JD.mono ?_;rintro e w3 ⟨rfl,b3⟩;have H3:=ab (IG.out.below b3);clear c0 c1 c2' c3 c4 JD b3 IG
 go_upto_if 19 with (fail)
 obtain ⟨q,hq⟩ : ∃ q:Bool,q=decide ((wd:Int)<k0):=⟨_,rfl⟩;rw [<-hq]
 go_cut [1,2] from 20 to 20 (fun kv xv wx=>kv=.int .i64 (cx wd n)/\RSt Z w Ls r2 c2 pd2 au xv (iB wd n xs) wx)
 case first =>
  cases q with
  |true =>
   have CN:(wd:Int)<k0:=by have:=hq.symm;rwa [decide_eq_true_eq] at this
   have Nh:=ab (show cx wd n=1 from by unfold cx;rw [Ex];exact if_pos CN);have I7:=ab (show iB wd n xs=[65533] from by unfold iB;rw [Ex];exact if_pos CN);clear Ex hq CN;have hb:=AU w3 (.cells [Value.int .i32 65533].toArray 21);have htx:=aT (w:=w3) (ty:=21) (E:=aF .i32) (Y:=fun _=>False) (Z:=ZN Z w) [.int .i32 65533] 65533 rfl (fun _ _ h=>h.elim) (.inr (by obtain ⟨_,_,_,_,_,_,_,_,h8⟩:=H3.out;exact h8));have HF:=ab ((H3.out.below hb).text htx);clear hb htx;go_wp2;go_meet
   case rel=>exact ⟨by rw [Nh.out],by rw [I7.out];exact HF.out⟩
  |false =>
   have CN:¬ (wd:Int)<k0:=by have:=hq.symm;rwa [decide_eq_false_iff_not] at this
   have Nh:=ab (show cx wd n=k0 from by unfold cx;rw [Ex];exact if_neg CN);have I7:=ab (show iB wd n xs=xs from by unfold iB;rw [Ex];exact if_neg CN);clear Ex hq CN;go_wp2;go_meet
   case rel=>exact ⟨by rw [Nh.out],by rw [I7.out];exact H3.out⟩
 case rest =>
  obtain ⟨rfl,hst⟩:=hcut;obtain ⟨w4,ED⟩:=ae (wc);subst ED;have Gt:=ab (er wd n);obtain ⟨kk,hk⟩:=ae (cx wd n);obtain ⟨ys,FD⟩:=ae (iB wd n xs);have BM:=ab (show fL Ls wd r2 c2 pd2 au n xs=cK (p2L wd kk (p1L Ls r2 pd2) (p1R Ls r2 pd2) (p1C c2 pd2) au) (p2R wd kk (p1L Ls r2 pd2) (p1R Ls r2 pd2) (p1C c2 pd2) au) (p2C wd kk (p1C c2 pd2) au) (ofC kk ys)/\fx Ls wd r2 c2 pd2 au n=p2R wd kk (p1L Ls r2 pd2) (p1R Ls r2 pd2) (p1C c2 pd2) au/\dE wd c2 pd2 au n=p2C wd kk (p1C c2 pd2) au from by rw [hk,FD];exact ⟨rfl,rfl,rfl⟩);rw [<-hk] at Gt;rw [<-FD] at hst;have KQ:=ab hk;rw [<-hk];have HS:=ab hst;obtain ⟨o4,k4,g4,_,_,v4,_⟩:=hst;have c3:=g4.cell 3 _ rfl;have G4:=ab g4;have V4:=ab v4;clear hk FD Ex hq H3 g4 v4
  go_upto_if 23 with (fail)
  go_cut [] from 24 to 25 (fun wx=>RSt Z w (p1L Ls r2 pd2) (p1R Ls r2 pd2:Nat) (p1C c2 pd2:Nat) false au u2 ys wx)
  case first =>
   cases pd2 with
   |false =>
    go_wp2;go_meet
    case rel=>exact HS.out
   |true =>
    have hd:=qn (fun b=>ZN Z w b/\b<w4.heap.size) (.slice o4 Ls.length k4) Ls r2 c2 true au w4 wd (V4.out.zone fun b hb hz=>⟨hz,hb⟩) (fun b hb=>hb.2) Ju.out Kq.out;have g4:=G4.out;have c0:=g4.cell 0 _ rfl;have c1:=g4.cell 1 _ rfl;have c2':=g4.cell 2 _ rfl;have c3:=g4.cell 3 _ rfl;have c4:=g4.cell 4 _ rfl;clear g4
    go_wp2_with fail
    refine hd.mono ?_;rintro e w5 ⟨v5,rfl,h5,b5⟩;obtain ⟨o5,k5,ev5⟩:=h5.len;subst ev5;have g5:=G4.out.below b5 G4.out.lt;have f0:=g5.free 0;have f1:=g5.free 1;have f2:=g5.free 2;have f3:=g5.free 3;have f4:=g5.free 4;have HF:=ab (RSt.put (r2:=(aW Ls r2:Nat)) (c2:=0) (pd2:=false) (au2:=au) HZ.out HS.out b5 h5);clear hd h5 b5 c0 c1 c2' c3 c4;have c0:=g5.cell 0 _ rfl;have c1:=g5.cell 1 _ rfl;have c2':=g5.cell 2 _ rfl;have c3:=g5.cell 3 _ rfl;have c4:=g5.cell 4 _ rfl;clear g5;go_wp2;go_meet
    case rel=>exact HF.out
  case rest =>
   obtain ⟨w5,ED⟩:=ae (wc);subst ED;have MZ:=pY pd2 Kq.out;have h1c:p1C c2 pd2<wd:=by have:=M1.out;unfold p1C;split <;> omega
   have Qe:=sE Ju.out pd2 Kq.out;obtain ⟨L1,LV⟩:=ae (p1L Ls r2 pd2);obtain ⟨r1,hr1⟩:=ae (p1R Ls r2 pd2);obtain ⟨c1,hc1⟩:=ae (p1C c2 pd2);rw [<-LV,<-hr1,<-hc1] at hcut BM;rw [<-hr1,<-LV] at MZ;rw [<-hc1] at h1c;rw [<-LV] at Qe;have H5:=ab hcut;have E3:=ab MZ.1;have MI:=ab h1c;have Ht:=ab Qe;obtain ⟨o5,k5,g5,_,_,v5,_⟩:=hcut;have e2:=g5.cell 2 _ rfl;have G5:=ab g5;have V5:=ab v5;have Pw:IntKind.i64.wrap ((wd:Int) - 1)=(wd:Int) - 1:=by rw [IntKind.wrap_i64];omega
   clear MZ h1c Qe LV hr1 hc1 c3 g5 v5 G4 V4 HS
   go_upto_region 9 with (fail)
   obtain ⟨q2,CN⟩ : ∃ q2:Bool,q2=((kk == 2) && ((c1:Int) == (wd:Int) - 1)):=⟨_,rfl⟩
   go_cut [35] from 26 to 35 (fun tv wx=>tv=.bool q2/\wx=w5)
   case first =>
    rcases Gt.out with h1 | ⟨h2,_⟩
    ·have hd:(kk == 2)=false:=by rw [h1];rfl
     rw [hd,Bool.false_and] at CN;subst CN;clear h1;go_wp2;go_meet
     case rel=>exact ⟨rfl,rfl⟩
    ·have hd:(kk == 2)=true:=by rw [h2];rfl
     rw [hd,Bool.true_and] at CN;clear h2;go_wp2;go_meet
     case rel=>exact ⟨by rw [CN],rfl⟩
   case rest =>
   obtain ⟨rfl,ED⟩:=hcut;subst ED
   go_upto_if 35 with (fail)
   obtain ⟨w5,ED⟩:=ae (wc);subst ED;have Qv:=ab (show w.heap.size+3<=w5.heap.size from by obtain ⟨_,_,_,_,_,_,_,_,h8⟩:=H5.out;exact h8);obtain ⟨i0,hi,hz0,hz1,hz2⟩:=info_parts cF;have HI:=ab (And.intro hi (And.intro hz0 (And.intro hz1 hz2)));clear hi hz0 hz1 hz2
   go_cut [] from 36 to 50 (fun wx=>RSt Z w (p2L wd kk L1 r1 c1 au) (p2R wd kk L1 r1 c1 au:Nat) (p2C wd kk c1 au:Nat) false au u2 ys wx)
   case first =>
    cases q2 with
    |false =>
     have EX:¬ (kk=2/\c1+1=wd):=by
      rintro ⟨e1,e2⟩;rw [e1,show (c1:Int)=(wd:Int) - 1 from by omega] at CN
      simp at CN
     have HE:=ab (show p2L wd kk L1 r1 c1 au=L1/\p2R wd kk L1 r1 c1 au=r1/\p2C wd kk c1 au=c1 from ⟨if_neg EX,if_neg EX,if_neg EX⟩);clear CN EX;go_wp2;go_meet
     case rel=>rw [HE.out.1,HE.out.2.1,HE.out.2.2];exact H5.out
    |true =>
     have IV:=CN.symm;rw [Bool.and_eq_true,beq_iff_eq,beq_iff_eq] at IV;have Cj:kk=2/\c1+1=wd:=⟨IV.1,by omega⟩;have hk2:2<=wd:=by rcases Gt.out with h | h <;> omega
     have e4:=G5.out.cell 4 _ rfl
     cases au with
     |true =>
      have HE:=ab (show p2L wd kk L1 r1 c1 true=goL (cK L1 r1 c1 [zc]) r1/\p2R wd kk L1 r1 c1 true=aW L1 r1/\p2C wd kk c1 true=0 from by unfold p2L p2R p2C;rw [if_pos Cj,if_pos Cj,if_pos Cj];exact ⟨rfl,rfl,rfl⟩);have hwc:IntKind.i64.wrap ((wd:Int) - 1)=(c1:Int):=by rw [IntKind.wrap_i64];omega
      clear CN IV Cj hk2 Pw e2
      go_upto_region 11 with (fail)
      clear e4;obtain ⟨AZ,A6⟩ : ∃ CC:Array Bool->World->Prop,CC=fun L8 w'=>(Mix.one L8 9=0->Below w5.heap.size w5 w')/\(Mix.one L8 9=1->RSt Z w (goL (cK L1 r1 c1 [zc]) r1) (aW L1 r1:Nat) 0 false true u2 ys w'):=⟨_,rfl⟩
      obtain ⟨BA,Bh⟩ : ∃ XX:World->World->Prop,XX=fun x y=>Upd (fun b=>b=w.heap.size) x y:=⟨_,rfl⟩
      obtain ⟨Bw,Bn,A2,A3,A4,A5,Bc,A9,Ba,A1,A7,Be,_,_⟩:=Reg.e12 BA
       (fun xx _=>xx=.agg #[.slice o5 L1.length k5,.int .i64 r1,.int .i64 c1,.bool false,.bool true])
       (fun xx _=>xx=.pointer (some ⟨w.heap.size,1,none⟩))
       (fun xx _=>xx=.pointer (some ⟨w.heap.size,1,none⟩))
       (fun xx _=>xx=.int .i64 r1)
       (fun xx _=>xx=.int .i64 wd)
       (fun xx _=>xx=.int .i64 c1)
       (fun x w'=>HeldE cellE (ZN Z w) w' x [zc])
       (fun x w'=>∃ o9 k9,x=.agg #[.slice o9 L1.length k9,.int .i64 r1,.int .i64 c1,.bool false,.bool true]/\HeldE lineE (ZN Z w) w' (.slice o9 L1.length k9) (cK L1 r1 c1 [zc]))
       (fun x w'=>∃ o9 k9,x=.agg #[.slice o9 L1.length k9,.int .i64 (aW L1 r1:Nat),.int .i64 0,.bool false,.bool true]/\HeldE lineE (ZN Z w) w' (.slice o9 L1.length k9) (goL (cK L1 r1 c1 [zc]) r1))
       (fun xx _=>xx=undef)
       (fun _ _=>True) (fun _ _=>True)
       (s6:=fun x w w1 hx h=>by rw [Bh] at hx;first | exact HeldE.upd h hx (fun b hb e=>by rcases hb with hb | hb;have:=HZ.out b hb;omega;omega) | (obtain ⟨o9,k9,e9,h9⟩:=h;exact ⟨o9,k9,e9,HeldE.upd h9 hx (fun b hb e=>by rcases hb with hb | hb;have:=HZ.out b hb;omega;omega)⟩))
       (s7:=fun x w w1 hx h=>by rw [Bh] at hx;first | exact HeldE.upd h hx (fun b hb e=>by rcases hb with hb | hb;have:=HZ.out b hb;omega;omega) | (obtain ⟨o9,k9,e9,h9⟩:=h;exact ⟨o9,k9,e9,HeldE.upd h9 hx (fun b hb e=>by rcases hb with hb | hb;have:=HZ.out b hb;omega;omega)⟩))
       (s8:=fun x w w1 hx h=>by rw [Bh] at hx;first | exact HeldE.upd h hx (fun b hb e=>by rcases hb with hb | hb;have:=HZ.out b hb;omega;omega) | (obtain ⟨o9,k9,e9,h9⟩:=h;exact ⟨o9,k9,e9,HeldE.upd h9 hx (fun b hb e=>by rcases hb with hb | hb;have:=HZ.out b hb;omega;omega)⟩))
      have Bd:Hid (∀ i L w,(i == 9)=false ->  AZ L w->AZ (L.setIfInBounds i true) w):=ab (by
       intro i L w q h;simp only [Bool.or_eq_false_iff,beq_eq_false_iff_ne] at q;rw [A6] at h ⊢;simp only [Mix.one_ne q];exact h)
      have Bv:Hid (∀ L w w1,AZ L w->Below w.heap.size w w1->AZ L w1):=ab (by
       intro L w w1 h hb;rw [A6] at h ⊢
       (obtain ⟨q1,q2⟩:=h;exact ⟨fun e=>(q1 e).trans (hb.mono (q1 e).size),fun e=>(q2 e).below hb⟩))
      have Bm:=ab (show ∀ w,BA w w from fun w=>by rw [Bh];exact Upd.refl _ _);have Bl:=ab (show ∀ w w1,Below w.heap.size w w1->BA w w1 from fun w w1 hb=>by rw [Bh];exact Upd.ofBelow hb);have By:=ab (show AZ (Array.replicate 10 false) w5.drew from by rw [A6];exact ⟨fun _=>(Below.refl _ _).drew,fun e=>absurd e (by decide)⟩);have AX:=ab (fun (i:Nat) L w v q (h:AZ L w) (e:Bw i v w)=>Reg.hk (Bd.out i L w q h) e (Bm.out w));have AW:=ab A6;have Bi:=ab Bh;clear A6 Bh
      go_wp2_with fail
      refine Reg.regionF Bw AZ BA Bn.out (by kernel_rfl) (by kernel_rfl) (by kernel_rfl) By.out (fun GC AV=>?_);simp only [Reg.frame,Reg.dsts,List.map_cons,List.map_nil,Mix.put_lit,Reg.put_none,List.set_cons_succ,List.set_cons_zero,Nat.zero_add,Nat.reduceAdd] at AV;refine ⟨⟨?_,?_,?_,?_,?_,?_,?_,?_,?_,?_,trivial⟩,?_⟩
      ·intro Lq wq xq hh;simp only [AV];refine Reg.go rfl ?_;have hc:AZ Lq wq:=hh.cls;rw [AW.out] at hc;have g9:=G5.out.below (hc.1 (Mix.one_un (hh.notYet 9 (by kernel_rfl)))) G5.out.lt;have q0:=g9.cell 0 _ rfl;have q1:=g9.cell 1 _ rfl;have q2':=g9.cell 2 _ rfl;have q3:=g9.cell 3 _ rfl;have q4:=g9.cell 4 _ rfl;clear hc;have HK:=AX.out 0 _ _ _ rfl hh.cls ((A2.out _ _).mpr rfl);go_simp;exact HK.out
      ·intro Lq wq xq hh;simp only [AV];refine Reg.go rfl ?_;have HK:=AX.out 1 _ _ _ rfl hh.cls ((A3.out _ _).mpr rfl);go_simp;exact HK.out
      ·intro Lq wq xq hh;simp only [AV,(A3.out _ _).mp (hh.v 1)];refine Reg.go rfl ?_;have HK:=AX.out 2 _ _ _ rfl hh.cls ((A4.out _ _).mpr rfl);go_simp;exact HK.out
      ·intro Lq wq xq hh;simp only [AV,(A4.out _ _).mp (hh.v 2)];refine Reg.go rfl ?_;have hc:AZ Lq wq:=hh.cls;rw [AW.out] at hc;have g9:=G5.out.below (hc.1 (Mix.one_un (hh.notYet 9 (by kernel_rfl)))) G5.out.lt;have q1:=g9.cell 1 _ rfl;clear hc;have HK:=AX.out 3 _ _ _ rfl hh.cls ((A5.out _ _).mpr rfl);go_simp;exact HK.out
      ·intro Lq wq xq hh;simp only [AV];refine Reg.go rfl ?_;have HK:=AX.out 4 _ _ _ rfl hh.cls ((Bc.out _ _).mpr rfl);go_simp;exact HK.out
      ·intro Lq wq xq hh;simp only [AV,(Bc.out _ _).mp (hh.v 4)];refine Reg.go rfl ?_;have HK:=AX.out 5 _ _ _ rfl hh.cls ((A9.out _ _).mpr rfl);go_simp;exact HK.out
      ·intro Lq wq xq hh;simp only [AV];refine Reg.go rfl ?_;unfold Reg.upon;have hc0:AZ Lq wq:=hh.cls;rw [AW.out] at hc0;have Lh:=hc0.1 (Mix.one_un (hh.notYet 9 (by kernel_rfl)));obtain ⟨w9,hrun,n1,n2⟩:=run_make_full (P:=Tryz.prog) wq wq.heap.size 102 147 i0 (.agg #[.int .i64 0,.slice none 0 0]) 2 Tryz.underlying102 HI.out.1 HI.out.2.1 HI.out.2.2.1 .i64 .i64 1 (by rw [HI.out.2.2.2];omega) (by unfold maxLen;omega) (Nat.le_refl _);rw [show ((1:Nat):Int)=1 from rfl] at hrun;go_simp;have Cm:Below wq.heap.size wq w9:=(Below.refl _ _).grown n2 (Nat.le_refl _) (by intro k hk;cases hk);refine ⟨Bd.out 6 Lq w9 (by decide) (Bv.out Lq wq w9 hh.cls Cm),?_,Bl.out wq w9 Cm⟩;rw [Ba.out];exact (dq n1).zone (fun b _ e=>.inr (by have:=Lh.size;have:=Qv.out;omega))
      ·intro Lq wq xq hh;have d6:=(Ba.out _ _).mp (hh.v 6);simp only [AV,(A2.out _ _).mp (hh.v 0),(A5.out _ _).mp (hh.v 3),(A9.out _ _).mp (hh.v 5)];refine Reg.go rfl ?_;unfold Reg.upon;have hc:AZ Lq wq:=hh.cls;rw [AW.out] at hc;go_simp;refine (sO (fun b=>ZN Z w b/\b<wq.heap.size) (.slice o5 L1.length k5) L1 r1 c1 false true r1 c1 (xq 6) [zc] wq ((V5.out.below (hc.1 (Mix.one_un (hh.notYet 9 (by kernel_rfl))))).zone fun b hb hz=>⟨hz,hb⟩) (d6.zone fun b hb hz=>⟨hz,hb⟩) (fun b hb=>hb.2) E3.out Ht.out.2.1 (by rw [Ht.out.2.2.2.2 r1 E3.out];exact Ht.out.2.2.1) (Ht.out.short r1 E3.out) (by rw [Ht.out.2.2.2.2 r1 E3.out];exact MI.out)).mono ?_;rintro e w2 ⟨v7,rfl,h7,b7⟩;obtain ⟨o9,k9,e9⟩:=h7.len;rw [cY] at e9;subst e9;have Lh:=hc.1 (Mix.one_un (hh.notYet 9 (by kernel_rfl)));refine ⟨_,rfl,Bd.out 7 Lq w2 (by decide) (Bv.out Lq wq w2 hh.cls b7),?_,Bl.out wq w2 b7⟩;rw [A1.out];exact ⟨o9,k9,rfl,h7.zone fun b _ hz=>by rcases hz with hz | hz;exact hz.1;exact .inr (by have:=Lh.size;have:=Qv.out;omega)⟩
      ·intro Lq wq xq hh;have d7:=(A1.out _ _).mp (hh.v 7);simp only [AV];refine Reg.go rfl ?_;unfold Reg.upon;obtain ⟨o9,k9,e9,h9⟩:=d7;rw [e9];have hc:AZ Lq wq:=hh.cls;rw [AW.out] at hc;have Lh:=hc.1 (Mix.one_un (hh.notYet 9 (by kernel_rfl)));have hgo:=qn (fun b=>ZN Z w b/\b<wq.heap.size) (.slice o9 L1.length k9) (cK L1 r1 c1 [zc]) r1 c1 false true wq wd (h9.zone fun b hb hz=>⟨hz,hb⟩) (fun b hb=>hb.2) (Ht.out.pnt E3.out c1 [zc]) (by rw [cY];exact E3.out);rw [show aW (cK L1 r1 c1 [zc]) r1=aW L1 r1 from by unfold aW;rw [cY]] at hgo;go_simp;refine hgo.mono ?_;rintro e w2 ⟨v7,rfl,h7,b7⟩;obtain ⟨o8,k8,e8⟩:=h7.len;rw [iR,cY] at e8;subst e8;refine ⟨_,rfl,Bd.out 8 Lq w2 (by decide) (Bv.out Lq wq w2 hh.cls b7),?_,Bl.out wq w2 b7⟩;rw [A7.out];exact ⟨o8,k8,rfl,h7.zone fun b _ hz=>by rcases hz with hz | hz;exact hz.1;exact .inr (by have:=Lh.size;have:=Qv.out;omega)⟩
      ·intro Lq wq xq hh;have d8:=(A7.out _ _).mp (hh.v 8);simp only [AV];refine Reg.go rfl ?_;unfold Reg.upon;obtain ⟨o9,k9,e9,h9⟩:=d8;have hc:AZ Lq wq:=hh.cls;rw [AW.out] at hc;have Cm:=hc.1 hh.un;have g9:=G5.out.below Cm G5.out.lt;have q0:=g9.cell 0 _ rfl;have q1:=g9.cell 1 _ rfl;have q2':=g9.cell 2 _ rfl;have q3:=g9.cell 3 _ rfl;have q4:=g9.cell 4 _ rfl;have s0:=g9.free 0;have s1:=g9.free 1;have s2:=g9.free 2;have s3:=g9.free 3;have s4:=g9.free 4;have N4:=RSt.store (r2:=(aW L1 r1:Nat)) (c2:=0) (pd2:=false) (au2:=true) HZ.out (H5.out.below Cm) h9;have IQ:=aR (W:=wq) w.heap.size (.slice o9 L1.length k9) (.int .i64 (aW L1 r1:Nat)) (.int .i64 0) (.bool false) (.bool true);have hF:AZ (Lq.setIfInBounds 9 true) (((((wq.setCell ⟨w.heap.size,0,none⟩ (.slice o9 L1.length k9)).setCell ⟨w.heap.size,1,none⟩ (.int .i64 (aW L1 r1:Nat))).setCell ⟨w.heap.size,2,none⟩ (.int .i64 0)).setCell ⟨w.heap.size,3,none⟩ (.bool false)).setCell ⟨w.heap.size,4,none⟩ (.bool true))/\Bw 9 undef (((((wq.setCell ⟨w.heap.size,0,none⟩ (.slice o9 L1.length k9)).setCell ⟨w.heap.size,1,none⟩ (.int .i64 (aW L1 r1:Nat))).setCell ⟨w.heap.size,2,none⟩ (.int .i64 0)).setCell ⟨w.heap.size,3,none⟩ (.bool false)).setCell ⟨w.heap.size,4,none⟩ (.bool true))/\BA wq (((((wq.setCell ⟨w.heap.size,0,none⟩ (.slice o9 L1.length k9)).setCell ⟨w.heap.size,1,none⟩ (.int .i64 (aW L1 r1:Nat))).setCell ⟨w.heap.size,2,none⟩ (.int .i64 0)).setCell ⟨w.heap.size,3,none⟩ (.bool false)).setCell ⟨w.heap.size,4,none⟩ (.bool true)):=by
        refine ⟨?_,by rw [Be.out],by rw [Bi.out];exact IQ⟩;rw [AW.out];exact ⟨fun e=>(by rw [Mix.one_set (by rw [hh.size];decide)] at e;exact absurd e (by decide)),fun _=>N4⟩
       rw [e9];clear hc Cm g9 N4 IQ h9 e9;go_simp
       try exact hF
      intro xq DY Bp BD;rw [AW.out] at Bp;simp only [AV];clear BD AV AX Bd Bm Bn By AW Bi Bv Bl A2 A3 A4 A5 Bc A9 Ba A1 A7 Be;have HF:=ab (Bp.2 (by kernel_rfl));clear Bp;go_wp2;go_meet
      case rel=>rw [HE.out.1,HE.out.2.1,HE.out.2.2];exact HF.out
     |false =>
      have HE:=ab (show p2L wd kk L1 r1 c1 false=L1/\p2R wd kk L1 r1 c1 false=r1/\p2C wd kk c1 false=c1 - 1 from by unfold p2L p2R p2C;rw [if_pos Cj,if_pos Cj,if_pos Cj];exact ⟨rfl,rfl,rfl⟩);obtain ⟨c0,rfl⟩ : ∃ c0,c1=c0+1:=⟨c1 - 1,by omega⟩;have hwc:IntKind.i64.wrap ((wd:Int) - 2)=(c0:Int):=by rw [IntKind.wrap_i64];omega
      have f2:=G5.out.free 2;have HF:=ab (RSt.col HZ.out H5.out (c0:Int));clear CN IV Cj hk2 Pw;go_wp2;go_meet
      case rel=>rw [HE.out.1,HE.out.2.1,HE.out.2.2];exact HF.out
   case rest =>
    obtain ⟨w6,ED⟩:=ae (wc);subst ED;have Dz:=pZ (wd:=wd) (k:=kk) (c:=c1) au E3.out;have hc3:=oO (c:=c1) au Gt.out MI.out;have Qf:=sF (k:=kk) (c:=c1) Ht.out au E3.out;obtain ⟨L3,hL3⟩:=ae (p2L wd kk L1 r1 c1 au);obtain ⟨r3,hr3⟩:=ae (p2R wd kk L1 r1 c1 au);obtain ⟨c3,GM⟩:=ae (p2C wd kk c1 au);rw [<-hL3,<-hr3,<-GM] at hcut BM;rw [<-hr3,<-hL3] at Dz;rw [<-GM] at hc3;rw [<-hL3] at Qf;have C5:=ab Dz.1;have NL:=ab Qf;have Po:=ab (show c3+(ofC kk ys).length<=wd from by
     rw [oT]
     split <;> rcases Gt.out with h | h <;> omega)
    clear hL3 hr3 GM Dz hc3 Qf CN Pw e2;have H6:=ab hcut;obtain ⟨o7,k7,g6,_,_,v6,t6,_,s6⟩:=hcut;have BF:=AU w6 (.cells [Value.int .i64 r3,.int .i64 c3,.bool false].toArray 24);have E9:=Has.new w6 [Value.int .i64 r3,.int .i64 c3,.bool false] 24;obtain ⟨W7,Lv⟩:=ae (w6.alloc (.cells [Value.int .i64 r3,.int .i64 c3,.bool false].toArray 24));rw [<-Lv] at BF E9;obtain ⟨g9,OL⟩:=ae (w6.heap.size);rw [<-OL] at E9;have hW7':W7=w6.alloc (.cells #[Value.int .i64 r3,.int .i64 c3,.bool false] 24):=Lv;have H7:=ab (H6.out.below BF);have G7:=ab (g6.below BF g6.lt);have V7:=ab (v6.below BF);have T7:=ab (t6.below BF);have Mr:=ab E9;have KT:=ab (show w.heap.size+3<=g9 from by rw [OL];exact s6);have PJ:=ab (show w.heap.size+3<=W7.heap.size from Nat.le_trans s6 BF.size);have p1:=g6.cell 1 _ rfl;have p2:=g6.cell 2 _ rfl;clear g6 v6 t6 BF E9 Lv H6 G5 V5 H5
    go_upto_region 14 with (fail)
    rw [<-hW7'];rw [<-OL];clear hW7' OL p1 p2 s6;obtain ⟨AZ,A6⟩ : ∃ CC:Array Bool->World->Prop,CC=fun L8 w'=>(Mix.one L8 9=0->Below W7.heap.size W7 w')/\(Mix.one L8 9=1->RSt Z w (cK L3 r3 c3 (ofC kk ys)) r3 c3 false au u2 ys w'/\Has w' g9 [.int .i64 r3,.int .i64 c3,.bool false] 24):=⟨_,rfl⟩
    obtain ⟨BA,Bh⟩ : ∃ XX:World->World->Prop,XX=fun x y=>Upd (fun b=>b=w.heap.size) x y:=⟨_,rfl⟩
    obtain ⟨Bw,Bn,A2,A3,A4,A5,Bc,A9,Ba,A1,A7,Be,_,_⟩:=Reg.e12 BA
     (fun xx _=>xx=.agg #[.slice o7 L3.length k7,.int .i64 r3,.int .i64 c3,.bool false,.bool au])
     (fun xx _=>xx=.pointer (some ⟨g9,0,none⟩))
     (fun xx _=>xx=.int .i64 r3)
     (fun xx _=>xx=.pointer (some ⟨g9,1,none⟩))
     (fun xx _=>xx=.int .i64 c3)
     (fun xx _=>xx=.int .i64 kk)
     (fun xx _=>xx=u2)
     (fun x w'=>HeldE cellE (ZN Z w) w' x (ofC kk ys))
     (fun x w'=>∃ o9 k9,x=.agg #[.slice o9 L3.length k9,.int .i64 r3,.int .i64 c3,.bool false,.bool au]/\HeldE lineE (ZN Z w) w' (.slice o9 L3.length k9) (cK L3 r3 c3 (ofC kk ys)))
     (fun xx _=>xx=undef)
     (fun _ _=>True) (fun _ _=>True)
     (s7:=fun x w w1 hx h=>by rw [Bh] at hx;first | exact HeldE.upd h hx (fun b hb e=>by rcases hb with hb | hb;have:=HZ.out b hb;omega;omega) | (obtain ⟨o9,k9,e9,h9⟩:=h;exact ⟨o9,k9,e9,HeldE.upd h9 hx (fun b hb e=>by rcases hb with hb | hb;have:=HZ.out b hb;omega;omega)⟩))
     (s8:=fun x w w1 hx h=>by rw [Bh] at hx;first | exact HeldE.upd h hx (fun b hb e=>by rcases hb with hb | hb;have:=HZ.out b hb;omega;omega) | (obtain ⟨o9,k9,e9,h9⟩:=h;exact ⟨o9,k9,e9,HeldE.upd h9 hx (fun b hb e=>by rcases hb with hb | hb;have:=HZ.out b hb;omega;omega)⟩))
    have Bd:Hid (∀ i L w,(i == 9)=false ->  AZ L w->AZ (L.setIfInBounds i true) w):=ab (by
     intro i L w q h;simp only [Bool.or_eq_false_iff,beq_eq_false_iff_ne] at q;rw [A6] at h ⊢;simp only [Mix.one_ne q];exact h)
    have Bv:Hid (∀ L w w1,AZ L w->Below w.heap.size w w1->AZ L w1):=ab (by
     intro L w w1 h hb;rw [A6] at h ⊢
     (obtain ⟨q1,q2⟩:=h;exact ⟨fun e=>(q1 e).trans (hb.mono (q1 e).size),fun e=>⟨(q2 e).1.below hb,(q2 e).2.below hb (q2 e).2.lt⟩⟩))
    have Bm:=ab (show ∀ w,BA w w from fun w=>by rw [Bh];exact Upd.refl _ _);have Bl:=ab (show ∀ w w1,Below w.heap.size w w1->BA w w1 from fun w w1 hb=>by rw [Bh];exact Upd.ofBelow hb);have By:=ab (show AZ (Array.replicate 10 false) W7.drew from by rw [A6];exact ⟨fun _=>(Below.refl _ _).drew,fun e=>absurd e (by decide)⟩);have AX:=ab (fun (i:Nat) L w v q (h:AZ L w) (e:Bw i v w)=>Reg.hk (Bd.out i L w q h) e (Bm.out w));have AW:=ab A6;have Bi:=ab Bh;clear A6 Bh
    go_wp2_with fail
    refine Reg.regionF Bw AZ BA Bn.out (by kernel_rfl) (by kernel_rfl) (by kernel_rfl) By.out (fun GC AV=>?_);simp only [Reg.frame,Reg.dsts,List.map_cons,List.map_nil,Mix.put_lit,Reg.put_none,List.set_cons_succ,List.set_cons_zero,Nat.zero_add,Nat.reduceAdd] at AV;refine ⟨⟨?_,?_,?_,?_,?_,?_,?_,?_,?_,?_,trivial⟩,?_⟩
    ·intro Lq wq xq hh;simp only [AV];refine Reg.go rfl ?_;have hc:AZ Lq wq:=hh.cls;rw [AW.out] at hc;have g9':=G7.out.below (hc.1 (Mix.one_un (hh.notYet 9 (by kernel_rfl)))) G7.out.lt;have q0:=g9'.cell 0 _ rfl;have q1:=g9'.cell 1 _ rfl;have q2':=g9'.cell 2 _ rfl;have q3:=g9'.cell 3 _ rfl;have q4:=g9'.cell 4 _ rfl;clear hc;have HK:=AX.out 0 _ _ _ rfl hh.cls ((A2.out _ _).mpr rfl);go_simp;exact HK.out
    ·intro Lq wq xq hh;simp only [AV];refine Reg.go rfl ?_;have HK:=AX.out 1 _ _ _ rfl hh.cls ((A3.out _ _).mpr rfl);go_simp;exact HK.out
    ·intro Lq wq xq hh;simp only [AV,(A3.out _ _).mp (hh.v 1)];refine Reg.go rfl ?_;have hc:AZ Lq wq:=hh.cls;rw [AW.out] at hc;have q1:=(Mr.out.below (hc.1 (Mix.one_un (hh.notYet 9 (by kernel_rfl)))) Mr.out.lt).cell 0 _ rfl;clear hc;have HK:=AX.out 2 _ _ _ rfl hh.cls ((A4.out _ _).mpr rfl);go_simp;exact HK.out
    ·intro Lq wq xq hh;simp only [AV];refine Reg.go rfl ?_;have HK:=AX.out 3 _ _ _ rfl hh.cls ((A5.out _ _).mpr rfl);go_simp;exact HK.out
    ·intro Lq wq xq hh;simp only [AV,(A5.out _ _).mp (hh.v 3)];refine Reg.go rfl ?_;have hc:AZ Lq wq:=hh.cls;rw [AW.out] at hc;have q1:=(Mr.out.below (hc.1 (Mix.one_un (hh.notYet 9 (by kernel_rfl)))) Mr.out.lt).cell 1 _ rfl;clear hc;have HK:=AX.out 4 _ _ _ rfl hh.cls ((Bc.out _ _).mpr rfl);go_simp;exact HK.out
    ·intro Lq wq xq hh;simp only [AV];refine Reg.go rfl ?_;have HK:=AX.out 5 _ _ _ rfl hh.cls ((A9.out _ _).mpr rfl);go_simp;exact HK.out
    ·intro Lq wq xq hh;simp only [AV];refine Reg.go rfl ?_;have HK:=AX.out 6 _ _ _ rfl hh.cls ((Ba.out _ _).mpr rfl);go_simp;exact HK.out
    ·intro Lq wq xq hh;simp only [AV,(A9.out _ _).mp (hh.v 5),(Ba.out _ _).mp (hh.v 6)];refine Reg.go rfl ?_;unfold Reg.upon;have hc:AZ Lq wq:=hh.cls;rw [AW.out] at hc;go_simp;refine (xF (ZN Z w) (ZN Z w) kk u2 ys wq (fun b hb=>.inr (by have:=(hc.1 (Mix.one_un (hh.notYet 9 (by kernel_rfl)))).size;have:=PJ.out;omega)) (T7.out.below (hc.1 (Mix.one_un (hh.notYet 9 (by kernel_rfl)))))).mono ?_;rintro e w2 ⟨v7,rfl,ho7,b7⟩;have Lh:=hc.1 (Mix.one_un (hh.notYet 9 (by kernel_rfl)));refine ⟨_,rfl,Bd.out 7 Lq w2 (by decide) (Bv.out Lq wq w2 hh.cls b7),?_,Bl.out wq w2 b7⟩;rw [A1.out];exact ho7.held fun b hb _=>.inr (by have:=Lh.size;have:=PJ.out;omega)
    ·intro Lq wq xq hh;have d7:=(A1.out _ _).mp (hh.v 7);simp only [AV,(A2.out _ _).mp (hh.v 0),(A4.out _ _).mp (hh.v 2),(Bc.out _ _).mp (hh.v 4)];refine Reg.go rfl ?_;unfold Reg.upon;have hc:AZ Lq wq:=hh.cls;rw [AW.out] at hc;go_simp;refine (sO (fun b=>ZN Z w b/\b<wq.heap.size) (.slice o7 L3.length k7) L3 r3 c3 false au r3 c3 (xq 7) (ofC kk ys) wq ((V7.out.below (hc.1 (Mix.one_un (hh.notYet 9 (by kernel_rfl))))).zone fun b hb hz=>⟨hz,hb⟩) (d7.zone fun b hb hz=>⟨hz,hb⟩) (fun b hb=>hb.2) C5.out NL.out.2.1 (by rw [NL.out.2.2.2.2 r3 C5.out];exact NL.out.2.2.1) (NL.out.short r3 C5.out) (by rw [NL.out.2.2.2.2 r3 C5.out];exact Po.out)).mono ?_;rintro e w2 ⟨v7,rfl,h7,b7⟩;obtain ⟨o9,k9,e9⟩:=h7.len;rw [cY] at e9;subst e9;have Lh:=hc.1 (Mix.one_un (hh.notYet 9 (by kernel_rfl)));refine ⟨_,rfl,Bd.out 8 Lq w2 (by decide) (Bv.out Lq wq w2 hh.cls b7),?_,Bl.out wq w2 b7⟩;rw [A7.out];exact ⟨o9,k9,rfl,h7.zone fun b _ hz=>by rcases hz with hz | hz;exact hz.1;exact .inr (by have:=Lh.size;have:=PJ.out;omega)⟩
    ·intro Lq wq xq hh;have d8:=(A7.out _ _).mp (hh.v 8);simp only [AV];refine Reg.go rfl ?_;unfold Reg.upon;obtain ⟨o9,k9,e9,h9⟩:=d8;have hc:AZ Lq wq:=hh.cls;rw [AW.out] at hc;have Cm:=hc.1 hh.un;have g9:=G7.out.below Cm G7.out.lt;have q0:=g9.cell 0 _ rfl;have q1:=g9.cell 1 _ rfl;have q2':=g9.cell 2 _ rfl;have q3:=g9.cell 3 _ rfl;have q4:=g9.cell 4 _ rfl;have s0:=g9.free 0;have s1:=g9.free 1;have s2:=g9.free 2;have s3:=g9.free 3;have s4:=g9.free 4;have N4:=RSt.store (r2:=r3) (c2:=c3) (pd2:=false) (au2:=au) HZ.out (H7.out.below Cm) h9;have IQ:=aR (W:=wq) w.heap.size (.slice o9 L3.length k9) (.int .i64 r3) (.int .i64 c3) (.bool false) (.bool au);have QK:=IQ.keep.has (Mr.out.below Cm Mr.out.lt) (fun e=>by have:=KT.out;omega);have hF:AZ (Lq.setIfInBounds 9 true) (((((wq.setCell ⟨w.heap.size,0,none⟩ (.slice o9 L3.length k9)).setCell ⟨w.heap.size,1,none⟩ (.int .i64 r3)).setCell ⟨w.heap.size,2,none⟩ (.int .i64 c3)).setCell ⟨w.heap.size,3,none⟩ (.bool false)).setCell ⟨w.heap.size,4,none⟩ (.bool au))/\Bw 9 undef (((((wq.setCell ⟨w.heap.size,0,none⟩ (.slice o9 L3.length k9)).setCell ⟨w.heap.size,1,none⟩ (.int .i64 r3)).setCell ⟨w.heap.size,2,none⟩ (.int .i64 c3)).setCell ⟨w.heap.size,3,none⟩ (.bool false)).setCell ⟨w.heap.size,4,none⟩ (.bool au))/\BA wq (((((wq.setCell ⟨w.heap.size,0,none⟩ (.slice o9 L3.length k9)).setCell ⟨w.heap.size,1,none⟩ (.int .i64 r3)).setCell ⟨w.heap.size,2,none⟩ (.int .i64 c3)).setCell ⟨w.heap.size,3,none⟩ (.bool false)).setCell ⟨w.heap.size,4,none⟩ (.bool au)):=by
      refine ⟨?_,by rw [Be.out],by rw [Bi.out];exact IQ⟩;rw [AW.out];exact ⟨fun e=>(by rw [Mix.one_set (by rw [hh.size];decide)] at e;exact absurd e (by decide)),fun _=>⟨N4,QK⟩⟩
     rw [e9];clear hc Cm g9 N4 IQ h9 e9;go_simp
     try exact hF
    intro xq DY Bp BD;rw [AW.out] at Bp;simp only [AV];clear BD AV AX Bd Bm Bn By AW Bi Bv Bl A2 A3 A4 A5 Bc A9 Ba A1 A7 Be;obtain ⟨h8,n8⟩:=Bp.2 (by kernel_rfl);have H8:=ab h8;have N8:=ab n8;obtain ⟨o8,k8,g8,_⟩:=h8;have G8:=ab g8;have d0:=n8.cell 0 _ rfl;have d1:=n8.cell 1 _ rfl;have d2:=n8.cell 2 _ rfl;have e4:=g8.cell 4 _ rfl;clear Bp n8 g8 H7 G7 V7 T7 Mr;have haf:=r6 r3 c3 false kk wd au DY (by omega)
    go_wp2_with fail
    refine haf.mono ?_;rintro e w9 ⟨rfl,b9⟩;have h9:=RSt.cur HZ.out (H8.out.below b9) r3 (eE c3 kk wd) (eF c3 kk wd au);have n9:=((((N8.out.below b9 N8.out.lt).setOther ⟨w.heap.size,1,none⟩ (.int .i64 r3) (by show g9≠w.heap.size;have:=KT.out;omega)).setOther ⟨w.heap.size,2,none⟩ (.int .i64 (eE c3 kk wd)) (by show g9≠w.heap.size;have:=KT.out;omega)).setOther ⟨w.heap.size,3,none⟩ (.bool (eF c3 kk wd au)) (by show g9≠w.heap.size;have:=KT.out;omega));have g9':=G8.out.below b9 G8.out.lt;have p1:=g9'.cell 1 _ rfl;have p2:=g9'.cell 2 _ rfl;have p3:=g9'.cell 3 _ rfl;have f1:=g9'.free 1;have f2:=g9'.free 2;have f3:=g9'.free 3;obtain ⟨W9,Lu⟩:=ae ((((w9.setCell ⟨w.heap.size,1,none⟩ (.int .i64 r3)).setCell ⟨w.heap.size,2,none⟩ (.int .i64 (eE c3 kk wd))).setCell ⟨w.heap.size,3,none⟩ (.bool (eF c3 kk wd au))));rw [<-Lu] at h9 n9;have H9:=ab h9;have N9:=ab n9;clear h9 n9 g9' b9 haf d0 d1 d2 e4
    go_upto_region 16 with (fail)
    rw [<-Lu];clear Lu p1 p2 p3 f1 f2 f3;obtain ⟨o9,k9,g9a,g9b,g9c,v9,_,l9,s9⟩:=H9.out;have n9:=N9.out;rw [cY] at g9a v9;have HST:=ab (And.intro g9a (And.intro n9 (And.intro g9b (And.intro g9c (And.intro v9 (And.intro l9 s9))))));clear g9a g9b g9c v9 l9 s9 n9;obtain ⟨AZ,A6⟩ : ∃ CC:Array Bool->World->Prop,CC=fun L8 w'=>Has w' w.heap.size [.slice o9 L3.length k9,.int .i64 r3,.int .i64 (eE c3 kk wd),.bool (eF c3 kk wd au),.bool au] 43/\Has w' g9 [.int .i64 r3,.int .i64 c3,.bool false] 24/\(Mix.one L8 2=0->Has w' (w.heap.size+1) [.slice none 0 0,.int .i64 0,.int .i64 0,.bool false,.bool false] 43)/\(Mix.one L8 2=1->Has w' (w.heap.size+1) [.slice o9 L3.length k9,.int .i64 r3,.int .i64 (eE c3 kk wd),.bool (eF c3 kk wd au),.bool au] 43)/\(Mix.one L8 3=0->Has w' (w.heap.size+2) [.int .i64 0,.int .i64 0,.bool false] 24)/\(Mix.one L8 3=1->Has w' (w.heap.size+2) [.int .i64 r3,.int .i64 c3,.bool false] 24)/\HeldE lineE (ZN Z w) w' (.slice o9 L3.length k9) (cK L3 r3 c3 (ofC kk ys))/\Below w.heap.size w w'/\w.heap.size+3<=w'.heap.size:=⟨_,rfl⟩
    obtain ⟨BA,Bh,Bm,Bl⟩:=Reg.xT;obtain ⟨Bw,Bn,A2,A3,A4,A5⟩:=Reg.e4 BA
     (fun xx _=>xx=.agg #[.slice o9 L3.length k9,.int .i64 r3,.int .i64 (eE c3 kk wd),.bool (eF c3 kk wd au),.bool au])
     (fun xx _=>xx=.agg #[.int .i64 r3,.int .i64 c3,.bool false])
     (fun xx _=>xx=undef)
     (fun xx _=>xx=undef)
    have Bd:Hid (∀ i L w,(i == 2 || i == 3)=false ->  AZ L w->AZ (L.setIfInBounds i true) w):=ab (by
     intro i L w q h;simp only [Bool.or_eq_false_iff,beq_eq_false_iff_ne] at q;rw [A6] at h ⊢;simp only [Mix.one_ne q.1,Mix.one_ne q.2];exact h)
    have Bv:Hid (∀ L w w1,AZ L w->Below w.heap.size w w1->AZ L w1):=ab (by
     intro L w w1 h hb;rw [A6] at h ⊢
     (obtain ⟨q1,q2,q3,q4,q5,q6,q7,q8,q9⟩:=h;exact ⟨q1.below hb q1.lt,q2.below hb q2.lt,fun e=>(q3 e).below hb (q3 e).lt,fun e=>(q4 e).below hb (q4 e).lt,fun e=>(q5 e).below hb (q5 e).lt,fun e=>(q6 e).below hb (q6 e).lt,q7.below hb,q8.trans (hb.mono q8.size),Nat.le_trans q9 hb.size⟩))
    have By:=ab (show AZ (Array.replicate 4 false) W9.drew from by rw [A6];(have hb:=(Below.refl W9.heap.size W9).drew;obtain ⟨q1,q2,q3,q5,q7,q8,q9⟩:=HST.out;exact ⟨q1.below hb q1.lt,q2.below hb q2.lt,fun _=>q3.below hb q3.lt,fun e=>absurd e (by decide),fun _=>q5.below hb q5.lt,fun e=>absurd e (by decide),q7.below hb,q8.trans (hb.mono q8.size),Nat.le_trans q9 hb.size⟩));have AX:=ab (fun (i:Nat) L w v q (h:AZ L w) (e:Bw i v w)=>Reg.hk (Bd.out i L w q h) e (Bm.out w));have AW:=ab A6;have Bi:=ab Bh;clear A6 Bh
    go_wp2_with fail
    refine Reg.regionF Bw AZ BA Bn.out (by kernel_rfl) (by kernel_rfl) (by kernel_rfl) By.out (fun GC AV=>?_);simp only [Reg.frame,Reg.dsts,List.map_cons,List.map_nil,Mix.put_lit,Reg.put_none,List.set_cons_succ,List.set_cons_zero,Nat.zero_add,Nat.reduceAdd] at AV;refine ⟨⟨?_,?_,?_,?_,trivial⟩,?_⟩
    ·intro Lq wq xq hh;simp only [AV];refine Reg.go rfl ?_;have hc:AZ Lq wq:=hh.cls;rw [AW.out] at hc;have y0:=hc.1.cell 0 _ rfl;have y1:=hc.1.cell 1 _ rfl;have y2:=hc.1.cell 2 _ rfl;have y3:=hc.1.cell 3 _ rfl;have y4:=hc.1.cell 4 _ rfl;clear hc;have HK:=AX.out 0 _ _ _ rfl hh.cls ((A2.out _ _).mpr rfl);go_simp;exact HK.out
    ·intro Lq wq xq hh;simp only [AV];refine Reg.go rfl ?_;have hc:AZ Lq wq:=hh.cls;rw [AW.out] at hc;have y0:=hc.2.1.cell 0 _ rfl;have y1:=hc.2.1.cell 1 _ rfl;have y2:=hc.2.1.cell 2 _ rfl;clear hc;have HK:=AX.out 1 _ _ _ rfl hh.cls ((A3.out _ _).mpr rfl);go_simp;exact HK.out
    ·intro Lq wq xq hh;simp only [AV,(A2.out _ _).mp (hh.v 0)];refine Reg.go rfl ?_;unfold Reg.upon;have hc:AZ Lq wq:=hh.cls;rw [AW.out] at hc;obtain ⟨q1,q2,q3,q4,q5,q6,q7,q8,q9⟩:=hc;have hz:=q3 hh.un;have y0:=hz.cell 0 _ rfl;have y1:=hz.cell 1 _ rfl;have y2:=hz.cell 2 _ rfl;have y3:=hz.cell 3 _ rfl;have y4:=hz.cell 4 _ rfl;have s0:=hz.free 0;have s1:=hz.free 1;have s2:=hz.free 2;have s3:=hz.free 3;have s4:=hz.free 4;have hu:=aR (W:=wq) (w.heap.size+1) (.slice o9 L3.length k9) (.int .i64 r3) (.int .i64 (eE c3 kk wd)) (.bool (eF c3 kk wd au)) (.bool au);have hF:AZ (Lq.setIfInBounds 2 true) (((((wq.setCell ⟨w.heap.size+1,0,none⟩ (.slice o9 L3.length k9)).setCell ⟨w.heap.size+1,1,none⟩ (.int .i64 r3)).setCell ⟨w.heap.size+1,2,none⟩ (.int .i64 (eE c3 kk wd))).setCell ⟨w.heap.size+1,3,none⟩ (.bool (eF c3 kk wd au))).setCell ⟨w.heap.size+1,4,none⟩ (.bool au))/\Bw 2 undef (((((wq.setCell ⟨w.heap.size+1,0,none⟩ (.slice o9 L3.length k9)).setCell ⟨w.heap.size+1,1,none⟩ (.int .i64 r3)).setCell ⟨w.heap.size+1,2,none⟩ (.int .i64 (eE c3 kk wd))).setCell ⟨w.heap.size+1,3,none⟩ (.bool (eF c3 kk wd au))).setCell ⟨w.heap.size+1,4,none⟩ (.bool au))/\BA wq (((((wq.setCell ⟨w.heap.size+1,0,none⟩ (.slice o9 L3.length k9)).setCell ⟨w.heap.size+1,1,none⟩ (.int .i64 r3)).setCell ⟨w.heap.size+1,2,none⟩ (.int .i64 (eE c3 kk wd))).setCell ⟨w.heap.size+1,3,none⟩ (.bool (eF c3 kk wd au))).setCell ⟨w.heap.size+1,4,none⟩ (.bool au)):=by
      refine ⟨?_,by rw [A4.out],by rw [Bi.out];trivial⟩;rw [AW.out];refine ⟨hu.keep.has q1 (fun e=>by omega),hu.keep.has q2 (fun e=>by have:=KT.out;omega),fun e=>?_,fun _=>cJ hz _ _ _ _ _,fun e=>hu.keep.has (q5 (by rw [Mix.one_ne (by decide)] at e;exact e)) (fun e=>by omega),fun e=>hu.keep.has (q6 (by rw [Mix.one_ne (by decide)] at e;exact e)) (fun e=>by omega),q7.upd hu (fun x hx e=>by rcases hx with hx | hx;have:=HZ.out x hx;omega;omega),iC (g:=w.heap.size+1) q8 (by omega) _ _ _ _ _,Nat.le_trans q9 hu.size⟩;rw [Mix.one_set (by rw [hh.size];decide)] at e;exact absurd e (by decide)
     clear q1 q2 q3 q4 q5 q6 q7 q8 hz hu;go_simp
     try exact hF
    ·intro Lq wq xq hh;simp only [AV,(A3.out _ _).mp (hh.v 1)];refine Reg.go rfl ?_;unfold Reg.upon;have hc:AZ Lq wq:=hh.cls;rw [AW.out] at hc;obtain ⟨q1,q2,q3,q4,q5,q6,q7,q8,q9⟩:=hc;have hz:=q5 hh.un;have y0:wq.cell? ⟨w.heap.size+1+1,0,none⟩=some (.int .i64 0):=hz.cell 0 _ rfl;have y1:wq.cell? ⟨w.heap.size+1+1,1,none⟩=some (.int .i64 0):=hz.cell 1 _ rfl;have y2:wq.cell? ⟨w.heap.size+1+1,2,none⟩=some (.bool false):=hz.cell 2 _ rfl;have s0:wq.frozen? ⟨w.heap.size+1+1,0,none⟩=false:=hz.free 0;have s1:wq.frozen? ⟨w.heap.size+1+1,1,none⟩=false:=hz.free 1;have s2:wq.frozen? ⟨w.heap.size+1+1,2,none⟩=false:=hz.free 2;have hu:=(((Upd.refl (fun x=>x=w.heap.size+2) wq).setCell (p:=⟨w.heap.size+2,0,none⟩) (.inl rfl) (.int .i64 r3)).setCell (p:=⟨w.heap.size+2,1,none⟩) (.inl rfl) (.int .i64 c3)).setCell (p:=⟨w.heap.size+2,2,none⟩) (.inl rfl) (.bool false);have hF:AZ (Lq.setIfInBounds 3 true) (((wq.setCell ⟨w.heap.size+2,0,none⟩ (.int .i64 r3)).setCell ⟨w.heap.size+2,1,none⟩ (.int .i64 c3)).setCell ⟨w.heap.size+2,2,none⟩ (.bool false))/\Bw 3 undef (((wq.setCell ⟨w.heap.size+2,0,none⟩ (.int .i64 r3)).setCell ⟨w.heap.size+2,1,none⟩ (.int .i64 c3)).setCell ⟨w.heap.size+2,2,none⟩ (.bool false))/\BA wq (((wq.setCell ⟨w.heap.size+2,0,none⟩ (.int .i64 r3)).setCell ⟨w.heap.size+2,1,none⟩ (.int .i64 c3)).setCell ⟨w.heap.size+2,2,none⟩ (.bool false)):=by
      refine ⟨?_,by rw [A5.out],by rw [Bi.out];trivial⟩;rw [AW.out];refine ⟨hu.keep.has q1 (fun e=>by omega),hu.keep.has q2 (fun e=>by have:=KT.out;omega),fun e=>hu.keep.has (q3 (by rw [Mix.one_ne (by decide)] at e;exact e)) (fun e=>by omega),fun e=>hu.keep.has (q4 (by rw [Mix.one_ne (by decide)] at e;exact e)) (fun e=>by omega),fun e=>?_,fun _=>((hz.set 0 _).set 1 _).set 2 _,q7.upd hu (fun x hx e=>by rcases hx with hx | hx;have:=HZ.out x hx;omega;omega),q8.trans (hu.below q8.size fun x e=>by omega),Nat.le_trans q9 hu.size⟩;rw [Mix.one_set (by rw [hh.size];decide)] at e;exact absurd e (by decide)
     have hF':=hF;clear q1 q2 q3 q4 q5 q6 q7 q8 hz hu;go_simp
     try exact hF
    intro xq DY Bp BD;rw [AW.out] at Bp;simp only [AV];clear BD AV AX Bd Bm Bn By AW Bi Bv Bl A2 A3 A4 A5;obtain ⟨_,_,_,q4,_,q6,q7,q8,q9⟩:=Bp;have hk:=q4 (by kernel_rfl);have hm:=q6 (by kernel_rfl);have k0':=hk.cell 0 _ rfl;have k1':=hk.cell 1 _ rfl;have k2':=hk.cell 2 _ rfl;have k3':=hk.cell 3 _ rfl;have k4':=hk.cell 4 _ rfl;have m0:DY.cell? ⟨w.heap.size+1+1,0,none⟩=some (.int .i64 r3):=hm.cell 0 _ rfl;have m1:DY.cell? ⟨w.heap.size+1+1,1,none⟩=some (.int .i64 c3):=hm.cell 1 _ rfl;have m2:DY.cell? ⟨w.heap.size+1+1,2,none⟩=some (.bool false):=hm.cell 2 _ rfl;have HF:=ab (And.intro (q7.zone (Y:=fun b=>Z b\/(w.heap.size<=b/\b<DY.heap.size)) (fun b hb hz=>by rcases hz with hz | hz;exact .inl hz;exact .inr ⟨by omega,hb⟩)) q8);clear hk hm q4 q6 q7 q8;go_wp2;exact bodyPost_ret (v:=.tuple #[.agg #[.slice o9 L3.length k9,.int .i64 r3,.int .i64 (eE c3 kk wd),.bool (eF c3 kk wd au),.bool au],.agg #[.int .i64 r3,.int .i64 c3,.bool false]]) (by simp [results,Tryz.results77,go_sem,k0',k1',k2',k3',k4',m0,m1,m2]) rfl ⟨.slice o9 L3.length k9,by rw [BM.out.2.1,BM.out.2.2,<-KQ.out],by rw [BM.out.1];exact HF.out.1,HF.out.2⟩
end Go.Proofs.YtoeggiplcaegoaaGreatDoor
