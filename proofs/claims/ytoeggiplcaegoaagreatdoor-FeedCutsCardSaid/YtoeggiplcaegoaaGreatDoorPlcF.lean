import Derived.Test.YtoeggiplcaegoaaGreatDoorZ0
import Derived.Test.YtoeggiplcaegoaaGreatDoorMg8
import Derived.Deep.Cut
import Derived.Lib.MinMax
set_option maxRecDepth 100000
set_option linter.unusedVariables false
set_option linter.unusedSimpArgs false
set_option maxHeartbeats 4000000
namespace Go.Proofs.YtoeggiplcaegoaaGreatDoor
open Go.RowKit Go.ChangeShapes Go.WideShapes
variable {Yo : an}
def PStY(Yo:an)(w0:World)(B gp gg gr wd:Nat)(Rs R1:List Rw)(Ls:List Ln)(r c:Int)(pd au:Bool)(g6:Nat)(C6:List Value)(v:Value)(xs:List Int)(w1:World):Prop :=
 PAtY Yo w0 B gp gg gr wd Rs R1 Ls r c pd au w1/\HeldE (aF .i32) (fun b=>¬ PZ w1 gp gr R1 b) w1 v xs/\Has w1 g6 C6 24/\w0.heap.size<=g6
section
variable {w0 w1 w2 : World} {B gp gg gr wd g6 : Nat} {Rs R1 R2 : List Rw} {Ls L2 : List Ln} {r c r2 c2 : Int} {pd au pd2 au2 : Bool} {C6 : List Value} {v : Value} {xs : List Int}
theorem oN(h:PenY Yo w1 B gp gg gr wd R1 Ls r c pd au)(hg:Has w1 g6 C6 24):¬ PZ w1 gp gr R1 g6:=fun e=>by
 have ho:=h.2.2.1.other hg (by decide) (by decide) (by decide) (by decide);have hl:=hg.lt
 rcases e with e | e | ⟨i,hi,e⟩ | e
 ·subst e;exact aH hg h.1 (by decide)
 ·exact ho.2.1 e
 ·rcases e with e | e
  ·exact (ho.2.2 i hi).1 e
  ·exact (ho.2.2 i hi).2 e
 ·omega
theorem PStY.go(h:PStY Yo w0 B gp gg gr wd Rs R1 Ls r c pd au g6 C6 v xs w1)(k:PDoY Yo w1 B gp gg gr wd R1 L2 r2 c2 pd2 au2 w2):∃ R2,PStY Yo w0 B gp gg gr wd Rs R2 L2 r2 c2 pd2 au2 g6 C6 v xs w2:=by
 obtain ⟨h1,h2,h3,h4⟩:=h;obtain ⟨R2,k1,k2,k3⟩:=k;obtain ⟨_,hp⟩:=h1.go ⟨R2,k1,k2,k3⟩;refine ⟨R2,⟨k1,h1.2.1.trans (k2.mono fun b _ hb=>PZ.from h1.2.2 h1.2.1.size b hb),h1.2.2.trans k3 h1.2.1.size⟩,(h2.upd k2 fun b hb=>hb).zone (fun b _ hz e=>hz (PZ.from k3 k2.size b e)),k2.keep.has h3 (oN h1.1 h3),h4⟩
theorem PStY.below(h:PStY Yo w0 B gp gg gr wd Rs R1 Ls r c pd au g6 C6 v xs w1)(hb:Below w1.heap.size w1 w2):PStY Yo w0 B gp gg gr wd Rs R1 Ls r c pd au g6 C6 v xs w2:=by
 obtain ⟨h1,h2,h3,h4⟩:=h;exact ⟨h1.below hb,(h2.below hb).zone (fun b _ hz e=>hz (PZ.from (RowsFrom.self _ _) hb.size b e)),h3.below hb h3.lt,h4⟩
theorem PStY.text(h:PStY Yo w0 B gp gg gr wd Rs R1 Ls r c pd au g6 C6 v xs w1)(hb:Below w1.heap.size w1 w2){u:Value}{ys:List Int}(hu:HeldE (aF .i32) (fun b=>w1.heap.size<=b) w2 u ys):PStY Yo w0 B gp gg gr wd Rs R1 Ls r c pd au g6 C6 u ys w2:=by
 have hl:=h.1.1.lt;have hg:=h.1.1.2.2.1.lt;obtain ⟨h1,h2,h3,h4⟩:=h;refine ⟨h1.below hb,hu.zone (fun b hlt hz e=>?_),h3.below hb h3.lt,h4⟩
 rcases e with e | e | ⟨i,hi,e⟩ | e
 ·omega
 ·omega
 ·have:=hg.2.2.2.2.2 i hi;rcases e with e | e <;> omega
 ·omega
end
theorem lQ{w:World}{g:Nat}{a b:Int}{c:Bool}(h:Has w g [.int .i64 a,.int .i64 b,.bool c] 24):iS w g:=fun o x e=>by
 rw [cell_of_row w g o _ _ (0,0) h] at e
 match o with
 | 0=>simp at e
 | 1=>simp at e
 | 2=>simp at e
 | o+3=>simp at e
theorem PAtY.cur{w0 w1:World}{B gp gg gr wd g:Nat}{Rs R1:List Rw}{Ls:List Ln}{r c:Int}{pd au:Bool}(h:PAtY Yo w0 B gp gg gr wd Rs R1 Ls r c pd au w1){a b:Int}{d:Bool}(hg:Has w1 g [.int .i64 a,.int .i64 b,.bool d] 24)(hlt:w0.heap.size<=g)(x y z:Value):PAtY Yo w0 B gp gg gr wd Rs R1 Ls r c pd au (((w1.setCell ⟨g,0,none⟩ x).setCell ⟨g,1,none⟩ y).setCell ⟨g,2,none⟩ z):=by
 have hu:Upd (fun b=>b=g) w1 (((w1.setCell ⟨g,0,none⟩ x).setCell ⟨g,1,none⟩ y).setCell ⟨g,2,none⟩ z):=(((Upd.refl (fun b=>b=g) w1).setCell (p:=⟨g,0,none⟩) (.inl rfl) x).setCell (p:=⟨g,1,none⟩) (.inl rfl) y).setCell (p:=⟨g,2,none⟩) (.inl rfl) z;have hne:g≠gp:=fun e=>by subst e;exact aH hg h.1.1 (by decide)
 have ho:=h.1.2.2.1.other hg (by decide) (by decide) (by decide) (by decide);exact ⟨⟨hu.keep.has h.1.1 (fun e=>hne e.symm),h.1.2.1,h.1.2.2.1.pen (lQ hg) ho hu,h.1.2.2.2⟩,h.2.1.trans (hu.mono fun b _ e=>.inr (.inr (.inr (by omega)))),h.2.2⟩
theorem pV(B gp gg gr wd:Nat)(Rs:List Rw)(Ls:List Ln)(r c:Int)(pd au:Bool)(n:Int)(v:Value)(xs:List Int)(w:World)(h:PenY Yo w B gp gg gr wd Rs Ls r c pd au)(hv:HeldE (aF .i32) (fun b=>¬ PZ w gp gr Rs b) w v xs)(r2 c2:Nat)(pd2:Bool)(hr2:inI r (ay Ls.length)=(r2:Int))(hc2:inI c (ay wd)=(c2:Int))(IK:cI c pd wd=pd2)(DX:r2<Ls.length)(hlc:c2<wd) :
  Calls Tryz.prog 61 #[.pointer (some ⟨gp,0,none⟩),.int .i64 n,v] w (fun e w'=>e=.returned (.agg #[.int .i64 (fx Ls wd r2 c2 pd2 au n:Nat),.int .i64 (dE wd c2 pd2 au n:Nat),.bool false]) /\
   PDoY Yo w B gp gg gr wd Rs (fL Ls wd r2 c2 pd2 au n xs) (fx Ls wd r2 c2 pd2 au n:Nat) (eE (dE wd c2 pd2 au n:Nat) (cx wd n) wd) (eF (dE wd c2 pd2 au n:Nat) (cx wd n) wd au) au w'):=by
 have hsz:=h.sizes;have hwd:0<wd/\wd<=1024:=⟨hsz.2.2.1,hsz.2.2.2.1⟩;have hb0:=AU w (.cells [Value.int .i64 0,.int .i64 0,.bool false].toArray 24);have Fa:=Has.new w [Value.int .i64 0,.int .i64 0,.bool false] 24;obtain ⟨W0,hW0⟩:=ae (w.alloc (.cells [Value.int .i64 0,.int .i64 0,.bool false].toArray 24));rw [<-hW0] at hb0 Fa;obtain ⟨g6,Pg⟩:=ae (w.heap.size);have h0:PStY Yo w B gp gg gr wd Rs Rs Ls r c pd au g6 [.int .i64 0,.int .i64 0,.bool false] v xs W0:=⟨(PAtY.start h).below hb0,(hv.below hb0).zone (fun b _ hz e=>hz (PZ.from (RowsFrom.self _ _) hb0.size b e)),by rw [Pg];exact Fa,by rw [Pg];exact Nat.le_refl _⟩;have HH:=ab (m7 B gp gg gr wd Rs Ls r c pd au W0 h0.1.1);rw [hr2,hc2,IK] at HH;have H0:=ab h0;have hvm:=hv.max;obtain ⟨ao,ca,rfl⟩:=hv.len;have DF:=ab hsz.2.2.2.2.2;obtain ⟨xn,Lm⟩:=ae (xs.length);have Kq:=ab DX;have M1:=ab hlc;have HXN:=ab Lm;rw [<-Lm] at hvm H0 ⊢;have hW0':W0=w.alloc (.cells #[Value.int .i64 0,.int .i64 0,.bool false] 24):=hW0;clear h hv hb0 Fa h0 hr2 hc2 IK hsz Lm hW0 DX hlc
 go_enter Tryz.func61,Tryz.ntmps61
 go_wp2_with fail
 rw [<-hW0'];rw [<-Pg];refine HH.out.mono ?_;rintro e w1 ⟨rfl,k1⟩;obtain ⟨R1,h1⟩:=H0.out.go k1;have H1:=ab h1;clear k1 h1 hW0' Pg H0 HH
 go_upto_region 4 with (fail)
 obtain ⟨k0,Ex⟩ : ∃ k0,min (max n 1) 2=k0:=⟨_,rfl⟩;rw [Ex];have EU:max 1 (min n 2)=k0:=by omega
 have Ps:=ab EU;have c0:=H1.out.1.1.1.cell 0 _ rfl;obtain ⟨q,hq⟩ : ∃ q:Bool,q=((k0 == 2) && ((wd:Int) == 1)):=⟨_,rfl⟩;have Of:k0=1\/k0=2:=by omega
 go_cut [24] from 15 to 24 (fun tv wx=>tv=.bool q/\wx=w1)
 case first =>
  rcases Of with h1 | h2
  ·have hd:(k0 == 2)=false:=by rw [h1];rfl
   rw [hd,Bool.false_and] at hq;subst hq;clear EU Ex h1;go_wp2;go_meet
   case rel=>exact ⟨rfl,rfl⟩
  ·have hd:(k0 == 2)=true:=by rw [h2];rfl
   rw [hd,Bool.true_and] at hq;clear EU Ex h2
   go_wp2_with fail
   refine (eZ B gg gr wd R1 w1 H1.out.1.1.2.2.1).mono ?_;rintro e w2 ⟨rfl,rfl⟩;go_wp2;go_meet
   case rel=>exact ⟨by rw [hq],rfl⟩
 case rest =>
 obtain ⟨rfl,rfl⟩:=hcut;obtain ⟨w1,ED⟩:=ae (wc);subst ED
 go_upto_if 24 with (fail)
 go_cut [1,2] from 25 to 25 (fun kv tv wx=>kv=.int .i64 (cx wd n)/\PStY Yo w B gp gg gr wd Rs R1 Ls r2 c2 pd2 au g6 [.int .i64 0,.int .i64 0,.bool false] tv (iB wd n xs) wx)
 case first =>
  cases q with
  |true =>
   have CN:=hq.symm;rw [Bool.and_eq_true,beq_iff_eq,beq_iff_eq] at CN;have Nh:=ab (show cx wd n=1 from by unfold cx;rw [EU,CN.1];exact if_pos (by omega));have I7:=ab (show iB wd n xs=[65533] from by unfold iB;rw [EU,CN.1];exact if_pos (by omega));clear EU Ex hq CN Of;have hb:=AU w1 (.cells [Value.int .i32 65533].toArray 21);have ht:=aT (w:=w1) (ty:=21) (E:=aF .i32) (Y:=fun _=>False) (Z:=fun b=>w1.heap.size<=b) [.int .i32 65533] 65533 rfl (fun _ _ h=>h.elim) (Nat.le_refl _);have HF:=ab (H1.out.text hb ht);clear hb ht;go_wp2;go_meet
   case rel=>exact ⟨by rw [Nh.out],by rw [I7.out];exact HF.out⟩
  |false =>
   have EX:¬ (wd:Int)<max 1 (min n 2):=by
    rw [EU]
    rcases Of with h1 | h2
    ·omega
    ·intro hlt;rw [h2] at hq hlt;have:(wd:Int)=1:=by omega
     rw [this] at hq;exact absurd hq (by decide)
   have Nh:=ab (show cx wd n=k0 from by unfold cx;rw [if_neg EX,EU]);have I7:=ab (show iB wd n xs=xs from by unfold iB;exact if_neg EX);clear EU Ex hq Of EX;go_wp2;go_meet
   case rel=>exact ⟨by rw [Nh.out],by rw [I7.out];exact H1.out⟩
 case rest =>
  obtain ⟨rfl,hst⟩:=hcut;obtain ⟨w2,ED⟩:=ae (wc);subst ED;have Gt:=ab (er wd n);obtain ⟨k,hk⟩:=ae (cx wd n);obtain ⟨ys,FD⟩:=ae (iB wd n xs);have BM:=ab (show fL Ls wd r2 c2 pd2 au n xs=cK (p2L wd k (p1L Ls r2 pd2) (p1R Ls r2 pd2) (p1C c2 pd2) au) (p2R wd k (p1L Ls r2 pd2) (p1R Ls r2 pd2) (p1C c2 pd2) au) (p2C wd k (p1C c2 pd2) au) (ofC k ys)/\fx Ls wd r2 c2 pd2 au n=p2R wd k (p1L Ls r2 pd2) (p1R Ls r2 pd2) (p1C c2 pd2) au/\dE wd c2 pd2 au n=p2C wd k (p1C c2 pd2) au from by rw [hk,FD];exact ⟨rfl,rfl,rfl⟩);rw [<-hk] at Gt;rw [<-FD] at hst;have KQ:=ab hk;rw [<-hk];have HS:=ab hst;have c3:=hst.1.1.1.cell 3 _ rfl;clear hst hk FD c0 EU Ex hq Of
  go_upto_if 30 with (fail)
  go_cut [] from 31 to 32 (fun wx=>∃ R2,PStY Yo w B gp gg gr wd Rs R2 (p1L Ls r2 pd2) (p1R Ls r2 pd2:Nat) (p1C c2 pd2:Nat) false au g6 [.int .i64 0,.int .i64 0,.bool false] u2 ys wx)
  case first =>
   cases pd2 with
   |false =>
    go_wp2;go_meet
    case rel=>exact ⟨R1,HS.out⟩
   |true =>
    have hd:=sC B gp gg gr wd R1 Ls r2 c2 true au w2 HS.out.1.1 Kq.out
    go_wp2_with fail
    refine hd.mono ?_;rintro e w4 ⟨rfl,k2⟩;obtain ⟨R2,h2⟩:=HS.out.go k2;have HF:=ab h2;clear hd k2 h2;go_wp2;go_meet
    case rel=>exact ⟨R2,HF.out⟩
  case rest =>
   obtain ⟨R2,h2⟩:=hcut;obtain ⟨w3,ED⟩:=ae (wc);subst ED;have MZ:=pY pd2 Kq.out;have h1c:p1C c2 pd2<wd:=by have:=M1.out;unfold p1C;split <;> omega
   obtain ⟨L1,LV⟩:=ae (p1L Ls r2 pd2);obtain ⟨r1,hr1⟩:=ae (p1R Ls r2 pd2);obtain ⟨c1,hc1⟩:=ae (p1C c2 pd2);rw [<-LV,<-hr1,<-hc1] at h2 BM;rw [<-hr1,<-LV] at MZ;rw [<-hc1] at h1c;have H2:=ab h2;have E3:=ab MZ.1;have MI:=ab h1c;have e0:=aj (h2.1.1.1.cell 0 _ rfl);have e2:=aj (h2.1.1.1.cell 2 _ rfl);have HG:=ab (show ∀ u:Growth w3,GridY Yo (ext w3 u) B gg gr wd R2 from fun u=>h2.1.1.2.2.1.below u.ok);clear h2 MZ h1c LV hr1 hc1 c3
   go_upto_region 8 with (fail)
   obtain ⟨q2,CN⟩ : ∃ q2:Bool,q2=((k == 2) && ((c1:Int) == (wd:Int) - 1)):=⟨_,rfl⟩
   go_cut [48] from 33 to 48 (fun tv wx=>tv=.bool q2/\PStY Yo w B gp gg gr wd Rs R2 L1 r1 c1 false au g6 [.int .i64 0,.int .i64 0,.bool false] u2 ys wx)
   case first =>
    rcases Gt.out with h1 | ⟨h2,_⟩
    ·have hd:(k == 2)=false:=by rw [h1];rfl
     rw [hd,Bool.false_and] at CN;subst CN;clear h1;refine aJ (by kernel_rfl) (by kernel_rfl) ?_
     repeat (go_big_quiet_step ((fail)))
     refine wpQuiet_nil ?_;intro _ hw';obtain ⟨u,hw''⟩:=hw';subst hw'';have HF:=ab (H2.out.below u.ok);go_wp2;go_meet
     case rel=>exact ⟨rfl,HF.out⟩
    ·have hd:(k == 2)=true:=by rw [h2];rfl
     rw [hd,Bool.true_and] at CN;have Pw:IntKind.i64.wrap ((wd:Int) - 1)=(wd:Int) - 1:=by rw [IntKind.wrap_i64];omega
     clear h2;refine aJ (by kernel_rfl) (by kernel_rfl) ?_
     repeat (go_big_quiet_step ((go_at_call 106;exact aG (eZ B gg gr wd R2 _ (HG.out _)))))
     refine wpQuiet_nil ?_;intro _ hw';obtain ⟨u,hw''⟩:=hw';subst hw'';have HF:=ab (H2.out.below u.ok);go_wp2;go_meet
     case rel=>exact ⟨by rw [CN],HF.out⟩
   case rest =>
   obtain ⟨rfl,h2⟩:=hcut;obtain ⟨w4,ED⟩:=ae (wc);subst ED;replace H2:=ab h2;clear h2 e0 e2 HG
   go_upto_if 48 with (fail)
   go_cut [] from 49 to 50 (fun wx=>∃ R3,PStY Yo w B gp gg gr wd Rs R3 (p2L wd k L1 r1 c1 au) (p2R wd k L1 r1 c1 au:Nat) (p2C wd k c1 au:Nat) false au g6 [.int .i64 0,.int .i64 0,.bool false] u2 ys wx)
   case first =>
    cases q2 with
    |false =>
     have EX:¬ (k=2/\c1+1=wd):=by
      rintro ⟨e1,e2⟩;rw [e1,show (c1:Int)=(wd:Int) - 1 from by omega] at CN
      simp at CN
     have HE:=ab (show p2L wd k L1 r1 c1 au=L1/\p2R wd k L1 r1 c1 au=r1/\p2C wd k c1 au=c1 from ⟨if_neg EX,if_neg EX,if_neg EX⟩);clear CN EX;go_wp2;go_meet
     case rel=>exact ⟨R2,by rw [HE.out.1,HE.out.2.1,HE.out.2.2];exact H2.out⟩
    |true =>
     have IV:=CN.symm;rw [Bool.and_eq_true,beq_iff_eq,beq_iff_eq] at IV;have Cj:k=2/\c1+1=wd:=⟨IV.1,by omega⟩;have hk2:2<=wd:=by rcases Gt.out with h | h <;> omega
     cases au with
     |true =>
      have HE:=ab (show p2L wd k L1 r1 c1 true=goL (cK L1 r1 c1 [zc]) r1/\p2R wd k L1 r1 c1 true=aW L1 r1/\p2C wd k c1 true=0 from by unfold p2L p2R p2C;rw [if_pos Cj,if_pos Cj,if_pos Cj];exact ⟨rfl,rfl,rfl⟩);clear CN IV Cj hk2;have hd:=xa B gp gg gr wd R2 L1 r1 c1 false w4 H2.out.1.1 E3.out MI.out
      go_wp2_with fail
      refine hd.mono ?_;rintro e w5 ⟨rfl,k5⟩;obtain ⟨R3,h3⟩:=H2.out.go k5;have HF:=ab h3;clear hd k5 h3;go_wp2;go_meet
      case rel=>exact ⟨R3,by rw [HE.out.1,HE.out.2.1,HE.out.2.2];exact HF.out⟩
     |false =>
      have HE:=ab (show p2L wd k L1 r1 c1 false=L1/\p2R wd k L1 r1 c1 false=r1/\p2C wd k c1 false=c1 - 1 from by unfold p2L p2R p2C;rw [if_pos Cj,if_pos Cj,if_pos Cj];exact ⟨rfl,rfl,rfl⟩);obtain ⟨c0,rfl⟩ : ∃ c0,c1=c0+1:=⟨c1 - 1,by omega⟩;have h0:=H2.out.1.1;rw [show ((c0+1:Nat):Int)=(c0:Int)+1 from by omega] at h0;have hd:=um B gp gg gr wd R2 L1 r1 c0 false w4 h0 (by omega);clear CN IV Cj hk2 h0
      go_wp2_with fail
      refine hd.mono ?_;rintro e w5 ⟨rfl,k5⟩;obtain ⟨R3,h3⟩:=H2.out.go k5;have HF:=ab h3;clear hd k5 h3;go_wp2;go_meet
      case rel=>exact ⟨R3,by rw [HE.out.1,HE.out.2.1,HE.out.2.2];exact HF.out⟩
   case rest =>
    obtain ⟨R3,h3⟩:=hcut;obtain ⟨w5,ED⟩:=ae (wc);subst ED;have Dz:=pZ (wd:=wd) (k:=k) (c:=c1) au E3.out;have hc3:=oO (c:=c1) au Gt.out MI.out;obtain ⟨L3,hL3⟩:=ae (p2L wd k L1 r1 c1 au);obtain ⟨r3,hr3⟩:=ae (p2R wd k L1 r1 c1 au);obtain ⟨c3,GM⟩:=ae (p2C wd k c1 au);rw [<-hL3,<-hr3,<-GM] at h3 BM;rw [<-hr3,<-hL3] at Dz;rw [<-GM] at hc3;have hwr:iW wd (c3:Int) (ofC k ys)=0:=by
     have hol:=oT k ys;refine rW ?_ (uN _ _);rw [hol]
     split <;> rcases Gt.out with h | h <;> omega
    have HWR:=ab hwr;have C5:=ab Dz.1;clear hL3 hr3 GM Dz hc3 hwr CN;have DB:=h3.1.1.sizes.2.2.2.2.1;have ID:=ab DB;have H3:=ab h3;have p1:=h3.1.1.1.cell 1 _ rfl;have p2:=h3.1.1.1.cell 2 _ rfl;have p3:=h3.1.1.1.cell 3 _ rfl;have BF:=AU w5 (.cells [Value.int .i64 r3,.int .i64 c3,.bool false].toArray 24);have E9:=Has.new w5 [Value.int .i64 r3,.int .i64 c3,.bool false] 24;obtain ⟨W6,Nz⟩:=ae (w5.alloc (.cells [Value.int .i64 r3,.int .i64 c3,.bool false].toArray 24));rw [<-Nz] at BF E9;have h6:=h3.below BF;obtain ⟨g7,Ks⟩:=ae (w5.heap.size);rw [<-Ks] at E9;have ND:=ab (show w.heap.size<=g7 from by rw [Ks];exact h3.1.2.1.size);have hW6':W6=w5.alloc (.cells #[Value.int .i64 r3,.int .i64 c3,.bool false] 24):=Nz;have H6:=ab h6;have HN7:=ab E9;have e0:=aj (h6.1.1.1.cell 0 _ rfl);have d0:=aj (E9.cell 0 _ rfl);have d1:=aj (E9.cell 1 _ rfl);obtain ⟨gk,I1⟩:=ae ((R3.getD r3 r0).g);have HGR:=ab (show ∀ u:Growth W6,Calls Tryz.prog 62 #[.pointer (some ⟨gg,0,none⟩),.int .i64 r3] (ext W6 u) (fun e w'=>e=.returned (.pointer (some ⟨gk,0,none⟩))/\ext W6 u=w') from fun u=>by rw [I1];exact it B gg gr wd R3 r3 _ (H6.out.1.1.2.2.1.below u.ok) (by have:=C5.out;have:=ID.out;omega));have HGM:=ab (show ∀ u:Growth W6,Calls Tryz.prog 115 #[.pointer (some ⟨gk,0,none⟩),.int .i64 c3,.int .i64 k,u2] (ext W6 u) (fun e w2=>e=.returned .nilIface/\PDoY Yo (ext W6 u) B gp gg gr wd R3 (cK L3 r3 c3 (ofC k ys)) r3 c3 false au w2) from fun u=>by rw [I1];exact uq (PAtY.start (H6.out.below u.ok).1.1) r3 c3 k (by have:=C5.out;have:=ID.out;omega) ys u2 _ (H6.out.below u.ok).2.1 HWR.out);clear h3 h6 E9 BF Nz I1 DB
    go_upto_region 11 with (fail)
    rw [<-hW6'];rw [<-Ks];clear hW6' Ks p1 p2 p3;refine aC 11 (by kernel_rfl) (by simp) (by kernel_rfl) (by kernel_rfl) (by kernel_rfl) (by kernel_rfl) (by kernel_rfl) ?_;simp only [List.take_succ_cons,List.take_zero,List.drop_succ_cons,List.drop_zero]
    repeat (go_big_quiet_step ((go_at_call 62;exact aG (HGR.out _))))
    refine wpQuiet_nil ?_;intro _ hw';obtain ⟨u,hw''⟩:=hw';subst hw'';have hd:=HGM.out u;have H7:=ab (H6.out.below u.ok);have Qi:=ab (HN7.out.below u.ok HN7.out.lt);clear d0 d1 e0
    go_wp2_with fail
    refine hd.mono ?_;rintro e w8 ⟨rfl,R4,Jo,Fh,hf4⟩;have h8:PAtY Yo w B gp gg gr wd Rs R4 (cK L3 r3 c3 (ofC k ys)) r3 c3 false au w8:=⟨Jo,H7.out.1.2.1.trans (Fh.mono fun b _ hb=>PZ.from H7.out.1.2.2 H7.out.1.2.1.size b hb),H7.out.1.2.2.trans hf4 H7.out.1.2.1.size⟩;have NH:=Fh.keep.has H7.out.2.2.1 (oN H7.out.1.1 H7.out.2.2.1);have E9:=Fh.keep.has Qi.out (oN H7.out.1.1 Qi.out);have HG6:=ab H7.out.2.2.2;have H8:=ab h8;have Oi:=ab NH;have NW:=ab E9;have e0:=aj (h8.1.1.cell 0 _ rfl);have e1:=aj (h8.1.1.cell 1 _ rfl);have e2:=aj (h8.1.1.cell 2 _ rfl);have e3:=aj (h8.1.1.cell 3 _ rfl);have e4:=aj (h8.1.1.cell 4 _ rfl);have f1:=aD (a:=⟨gp,1,none⟩) h8.1.lt (h8.1.1.free 1);have f2:=aD (a:=⟨gp,2,none⟩) h8.1.lt (h8.1.1.free 2);have f3:=aD (a:=⟨gp,3,none⟩) h8.1.lt (h8.1.1.free 3);have d0:=aj (E9.cell 0 _ rfl);have d1:=aj (E9.cell 1 _ rfl);have d2:=aj (E9.cell 2 _ rfl);have ML:=ab (show ∀ u:Growth w8,GridY Yo (ext w8 u) B gg gr wd R4 from fun u=>h8.1.2.2.1.below u.ok);clear hd Jo Fh hf4 h8 NH E9 H7 Qi
    go_upto_region 12 with (fail)
    refine aC 15 (by kernel_rfl) (by simp) (by kernel_rfl) (by kernel_rfl) (by kernel_rfl) (by kernel_rfl) (by kernel_rfl) ?_;simp only [List.take_succ_cons,List.take_zero,List.drop_succ_cons,List.drop_zero]
    repeat (go_big_quiet_step ((first | (go_at_call 106;exact aG (eZ B gg gr wd R4 _ (ML.out _))) | (go_at_call 116;exact ei (r5 r3 c3 false k wd au _ (by omega))))))
    refine wpQuiet_nil ?_;intro _ hw';obtain ⟨u,hw''⟩:=hw';subst hw'';have h9:=(show PAtY Yo w B gp gg gr wd Rs R4 (cK L3 r3 c3 (ofC k ys)) r3 c3 false au (ext w8 u) from H8.out.below u.ok).turn r3 (eE c3 k wd) (eF c3 k wd au);have Is:∀ g:Nat,∀ C:List Value,Has w8 g C 24->g≠gp:=fun g C hg e=>by subst e;exact aH hg H8.out.1.1 (by decide)
    have NH:=((((show Has (ext w8 u) g6 [.int .i64 0,.int .i64 0,.bool false] 24 from Oi.out.below u.ok Oi.out.lt).setOther ⟨gp,1,none⟩ (.int .i64 r3) (Is _ _ Oi.out)).setOther ⟨gp,2,none⟩ (.int .i64 (eE c3 k wd)) (Is _ _ Oi.out)).setOther ⟨gp,3,none⟩ (.bool (eF c3 k wd au)) (Is _ _ Oi.out));have E9:=((((show Has (ext w8 u) g7 [.int .i64 r3,.int .i64 c3,.bool false] 24 from NW.out.below u.ok NW.out.lt).setOther ⟨gp,1,none⟩ (.int .i64 r3) (Is _ _ NW.out)).setOther ⟨gp,2,none⟩ (.int .i64 (eE c3 k wd)) (Is _ _ NW.out)).setOther ⟨gp,3,none⟩ (.bool (eF c3 k wd au)) (Is _ _ NW.out));obtain ⟨W9,Lu⟩:=ae (((((ext w8 u).setCell ⟨gp,1,none⟩ (.int .i64 r3)).setCell ⟨gp,2,none⟩ (.int .i64 (eE c3 k wd))).setCell ⟨gp,3,none⟩ (.bool (eF c3 k wd au))));rw [<-Lu] at h9;rw [<-Lu] at NH E9;have HW9:=ab Lu;have H9:=ab h9;have Gb:=ab NH;have Mv:=ab E9;clear Lu h9 NH E9 Is d0 d1 d2 ML
    go_upto_region 13 with (fail)
    rw [<-HW9.out];clear e0 e1 e2 e3 e4 f1 f2 f3 HW9;have d0:=Mv.out.cell 0 _ rfl;have d1:=Mv.out.cell 1 _ rfl;have d2:=Mv.out.cell 2 _ rfl;have b0:=Gb.out.cell 0 _ rfl;have b1:=Gb.out.cell 1 _ rfl;have b2:=Gb.out.cell 2 _ rfl;have s0:=Gb.out.free 0;have s1:=Gb.out.free 1;have s2:=Gb.out.free 2;have hf:=H9.out.cur Gb.out HG6.out (.int .i64 r3) (.int .i64 c3) (.bool false);have hres:=((Gb.out.set 0 (.int .i64 r3)).set 1 (.int .i64 c3)).set 2 (.bool false);have HF:=ab hf;have k0':=hres.cell 0 _ rfl;have k1':=hres.cell 1 _ rfl;have k2':=hres.cell 2 _ rfl;have HK0:=ab k0';have HK1:=ab k1';have Jg:=ab k2';clear hf hres k0' k1' k2';go_wp2;have k0':=HK0.out;have k1':=HK1.out;have k2':=Jg.out;exact bodyPost_ret (v:=.agg #[.int .i64 r3,.int .i64 c3,.bool false]) (by simp [results,Tryz.results61,go_sem,k0',k1',k2']) rfl ⟨by rw [BM.out.2.1,BM.out.2.2],by rw [BM.out.1,BM.out.2.1,BM.out.2.2,<-KQ.out];exact HF.out.done⟩
end Go.Proofs.YtoeggiplcaegoaaGreatDoor
