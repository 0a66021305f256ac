import Derived.Test.YtoeggiplcaegoaaGreatDoorZ0
import Derived.Test.YtoeggiplcaegoaaGreatDoorErfA
import Derived.Test.YtoeggiplcaegoaaGreatDoorRows
import Derived.LaidMore
import Derived.Test.YtoeggiplcaegoaaGreatDoorErrS
import Derived.Test.YtoeggiplcaegoaaGreatDoorSegR
import Derived.Test.YtoeggiplcaegoaaGreatDoorMg3
import Derived.Test.YtoeggiplcaegoaaGreatDoorHgR
import Derived.Test.YtoeggiplcaegoaaGreatDoorMg1
import Derived.Laws.StructEq
import Derived.Test.YtoeggiplcaegoaaGreatDoorMg2
import Derived.Sort.CutIn
set_option maxRecDepth 100000
set_option linter.unusedVariables false
set_option linter.unusedSimpArgs false
set_option maxHeartbeats 2000000
namespace Go.Proofs.YtoeggiplcaegoaaGreatDoor.F
open Go.RowKit
theorem Handle.keep{w w':World}(h:Handle w)(hb:Below w.heap.size w w'):Handle w':=(hb.cell (p:=⟨8,0,none⟩) (World.block_lt_of_cell? _ _ h)).trans h
end Go.Proofs.YtoeggiplcaegoaaGreatDoor.F
namespace Go.Proofs.YtoeggiplcaegoaaGreatDoor.F
open Go.RowKit Go.ChangeShapes
end Go.Proofs.YtoeggiplcaegoaaGreatDoor.F
namespace Go.Proofs.YtoeggiplcaegoaaGreatDoor
open Go.RowKit Go.ChangeShapes Go.WideShapes
theorem wC(xs:List Pr)(m:Nat)(j:Int)(hj:cq (xs.getD m Pr.none).br (xs.getD (m+1) Pr.none).br=j) :
  ((j == 1)=true/\jR xs (m+1)=true)\/((j == 1)=false/\jo xs (m+1)=true/\jR xs (m+1)=true)\/((j == 1)=false/\jo xs (m+1)=false/\iA xs (m+1)=true/\jR xs (m+1)=true)
  \/ ((j == 1)=false/\jo xs (m+1)=false/\iA xs (m+1)=false/\(j != 2)=true/\jR xs (m+1)=false)
  \/ ((j == 1)=false/\jo xs (m+1)=false/\iA xs (m+1)=false/\(j != 2)=false/\((xs.getD (m+1) Pr.none).br != 6)=true/\jR xs (m+1)=false)
  \/ ((j == 1)=false/\jo xs (m+1)=false/\iA xs (m+1)=false/\(j != 2)=false/\((xs.getD (m+1) Pr.none).br != 6)=false/\jR xs (m+1)=decide (dX xs (m+1) % 2=1)):=by
 unfold jR;rw [if_neg (show ¬ m+1=0 by omega),show m+1 - 1=m by omega,hj];generalize (xs.getD (m+1) Pr.none).br=b at *;generalize jo xs (m+1)=c;generalize iA xs (m+1)=p
 by_cases h1:j=1
 ·exact .inl ⟨by simpa using h1,by rw [if_pos h1]⟩
 have d1:(j == 1)=false:=by simpa using h1
 rw [if_neg h1]
 cases c with
 |true=>exact .inr (.inl ⟨d1,rfl,rfl⟩)
 |false =>
  cases p with
  |true=>exact .inr (.inr (.inl ⟨d1,rfl,rfl,rfl⟩))
  |false =>
   by_cases h2:j=2
   ·have d2:(j != 2)=false:=by simpa using h2
    by_cases h6:b=6
    ·exact .inr (.inr (.inr (.inr (.inr ⟨d1,rfl,rfl,d2,by simpa using h6,by simp [h2,h6]⟩))))
    ·exact .inr (.inr (.inr (.inr (.inl ⟨d1,rfl,rfl,d2,by simpa using h6,by simp [h6]⟩))))
   ·exact .inr (.inr (.inr (.inl ⟨d1,rfl,rfl,by simpa using h2,by simp [h2]⟩)))
theorem pA(xs:List Pr)(k:Nat):(((xs.getD k Pr.none).br == 6)=true/\dX xs (k+1)=dX xs k+1)\/(((xs.getD k Pr.none).br == 6)=false/\dX xs (k+1)=0):=by
 have hstep:dX xs (k+1)=(if (xs.getD k Pr.none).br=6 then dX xs k+1 else 0):=rfl;rw [hstep];generalize (xs.getD k Pr.none).br=b
 by_cases h:b=6
 ·exact .inl ⟨by simpa using h,by rw [if_pos h]⟩
 ·exact .inr ⟨by simpa using h,by rw [if_neg h]⟩
theorem mw(a b:Int)(w:World):Calls Tryz.prog 253 #[.int .i64 a,.int .i64 b] w (Gives w (.int .i64 (cq a b))):=pI a b w
theorem pB(v:Value)(xs:List Pr)(w:World)(hh:HeldP w v xs):Calls Tryz.prog 210 #[v,.int .i64 0] w (Gives w (.bool (jR xs 0))):=by
 obtain ⟨ao,cap,rfl,_⟩:=id hh;rw [show jR xs 0=false from rfl]
 go_enter Tryz.func210,Tryz.ntmps210
 go_wp2;go_ret;exact ⟨af,Below.refl _ _⟩
theorem fi(v:Value)(xs:List Pr)(m:Nat)(w:World)(hh:HeldP w v xs)(hi:m+1<xs.length)(hl:xs.length<=1000000) :
 Calls Tryz.prog 254 #[v,.int .i64 ((m:Int)+1)] w (Gives w (.bool (jo xs (m+1)))):=tP v xs (m+1) w hh hi hl
theorem io(v:Value)(xs:List Pr)(m:Nat)(w:World)(hh:HeldP w v xs)(hi:m+1<xs.length)(hl:xs.length<=1000000) :
 Calls Tryz.prog 255 #[v,.int .i64 ((m:Int)+1)] w (Gives w (.bool (iA xs (m+1)))):=wD v xs (m+1) w hh hi hl
theorem pC(v:Value)(xs:List Pr)(m:Nat)(w:World)(hh:HeldP w v xs)(hi:m+1<xs.length)(hl:xs.length<=1000000) :
  Calls Tryz.prog 210 #[v,.int .i64 ((m:Int)+1)] w (Gives w (.bool (jR xs (m+1)))):=by
 obtain ⟨ao,cap,rfl,hc0⟩:=id hh;clear hc0;obtain ⟨_,hc⟩:=hh.at;have HC:=ab hc;have HH:=ab hh;clear hc hh;obtain ⟨b,off,rfl,hb,hx,_,_,_⟩:=HC.out m (by omega);obtain ⟨b',off',e',hb',hy,_,_,_⟩:=HC.out (m+1) hi
 cases e'
 have hw0:(m:Int)+1 - 1=(m:Int):=by omega
 obtain ⟨j,hj⟩ : ∃ j,cq (xs.getD m Pr.none).br (xs.getD (m+1) Pr.none).br=j:=⟨_,rfl⟩;have J7:=wC xs m j hj;obtain ⟨x,hx0⟩:=ae ((xs.getD m Pr.none).br);obtain ⟨y,Dy⟩:=ae ((xs.getD (m+1) Pr.none).br);rw [<-Dy] at hj hy J7;rw [<-hx0] at hj hx;have HY0:=ab Dy;have Hd:=ab J7;have HJ:=ab hj;clear hx0 Dy J7;have kx:=aj hx;have ky:=aj hy;have hlx:(m:Int)<(xs.length:Int):=by omega
 have OZ:(m:Int)+1<(xs.length:Int):=by omega
 have HY:=ab hy;clear hx hy hj
 go_enter Tryz.func210,Tryz.ntmps210
 go_wp2_with fail
 refine aJ (by kernel_rfl) (by kernel_rfl) ?_
 repeat (go_big_quiet_step ((go_at_call 253;exact ei (mw _ _ _))))
 refine wpQuiet_nil ?_;intro _ hw';obtain ⟨u,hw''⟩:=hw';subst hw'';rw [HJ.out];obtain ⟨W,hW⟩:=ae (ext w u);rw [<-hW];have hb0:Below w.heap.size w W:=by rw [hW];exact u.ok
 have Ld:=HH.out.below hb0;have PT:=(hb0.cell (p:=⟨b,off+(m+1) * 4,none⟩) hb).trans HY.out;clear hW kx ky
 rcases Hd.out with ⟨h1,hs⟩ | ⟨h1,h2,hs⟩ | ⟨h1,h2,h3,hs⟩ | ⟨h1,h2,h3,h4,hs⟩ | ⟨h1,h2,h3,h4,h5,hs⟩ | ⟨h1,h2,h3,h4,h5,hs⟩
 ·have HS:=ab hs;clear hs Hd;go_wp2;go_ret;exact ⟨al (by rw [HS.out];rfl),hb0⟩
 ·have HS:=ab hs;clear hs Hd
  go_wp2_with fail
  refine (fi _ xs m _ Ld hi hl).mono ?_;rintro e w2 ⟨rfl,b2⟩;have hb2:=hb0.trans (b2.mono hb0.size);go_wp2;go_ret;exact ⟨al (by rw [HS.out];rfl),hb2⟩
 ·have HS:=ab hs;clear hs Hd
  go_wp2_with fail
  refine (fi _ xs m _ Ld hi hl).mono ?_;rintro e w2 ⟨rfl,b2⟩
  go_wp2_with fail
  refine (io _ xs m _ (Ld.below b2) hi hl).mono ?_;rintro e w3 ⟨rfl,b3⟩;have hb3:=hb0.trans ((b2.trans (b3.mono b2.size)).mono hb0.size);go_wp2;go_ret;exact ⟨al (by rw [HS.out];rfl),hb3⟩
 ·have HS:=ab hs;clear hs Hd
  go_wp2_with fail
  refine (fi _ xs m _ Ld hi hl).mono ?_;rintro e w2 ⟨rfl,b2⟩
  go_wp2_with fail
  refine (io _ xs m _ (Ld.below b2) hi hl).mono ?_;rintro e w3 ⟨rfl,b3⟩;have hb3:=hb0.trans ((b2.trans (b3.mono b2.size)).mono hb0.size);go_wp2;go_ret;exact ⟨al (by rw [HS.out];rfl),hb3⟩
 ·have HS:=ab hs;clear hs Hd
  go_wp2_with fail
  refine (fi _ xs m _ Ld hi hl).mono ?_;rintro e w2 ⟨rfl,b2⟩
  go_wp2_with fail
  refine (io _ xs m _ (Ld.below b2) hi hl).mono ?_;rintro e w3 ⟨rfl,b3⟩;have hb3:=hb0.trans ((b2.trans (b3.mono b2.size)).mono hb0.size);have hy3:=((b2.trans (b3.mono b2.size)).cell (p:=⟨b,off+(m+1) * 4,none⟩) (Nat.lt_of_lt_of_le hb hb0.size)).trans PT;go_wp2;go_ret;exact ⟨al (by rw [HS.out];rfl),hb3⟩
 ·have HS:=ab hs;clear hs Hd
  go_wp2_with fail
  refine (fi _ xs m _ Ld hi hl).mono ?_;rintro e w2 ⟨rfl,b2⟩
  go_wp2_with fail
  refine (io _ xs m _ (Ld.below b2) hi hl).mono ?_;rintro e w3 ⟨rfl,b3⟩;have hb3:=hb0.trans ((b2.trans (b3.mono b2.size)).mono hb0.size);have hy3:=((b2.trans (b3.mono b2.size)).cell (p:=⟨b,off+(m+1) * 4,none⟩) (Nat.lt_of_lt_of_le hb hb0.size)).trans PT;go_wp2
  go_loopw [6,7] (fun nv kv wr=>∃ (k n:Nat),k<=m+1/\n<=m+1 - k/\nv=.int .i64 n/\kv=.int .i64 ((k:Int) - 1)/\Hid (n+dX xs k=dX xs (m+1))/\Below w.heap.size w wr) (fun _ kv _=>(intOf kv+1).toNat)
  case atStart=>exact ⟨m+1,0,Nat.le_refl _,by omega,rfl,by congr 1;omega,ab (by omega),hb3⟩
  case round =>
   obtain ⟨k,n,hk,hn,rfl,rfl,HQ,AY⟩:=hrel;clear PT hy3
   cases k with
   |zero =>
    have hq:=HQ.out;rw [show dX xs 0=0 from rfl] at hq;have EZ:n=dX xs (m+1):=by omega
    have HN:=ab EZ;clear hq EZ;go_wp2;go_ret;exact ⟨al (by rw [HS.out,<-HN.out];simp;rw [Bool.eq_iff_iff];simp;omega),AY⟩
   |succ k =>
    obtain ⟨b',off',e',hb',hx,_⟩:=HC.out k (by omega)
    cases e'
    have hx:=(AY.cell (p:=⟨b,off+k * 4,none⟩) hb').trans hx;have Da:(((k+1:Nat):Int) - 1)=(k:Int):=by omega
    rw [Da];clear Da hw0
    rcases pA xs k with ⟨h1,hs⟩ | ⟨h1,hs⟩
    ·have NA:=ab (show n+1+dX xs k=dX xs (m+1) by have:=HQ.out;rw [hs] at this;omega);clear hs HQ;generalize (xs.getD k Pr.none).br=c at *;go_wp2
     go_roundw
     case rel=>exact ⟨k,n+1,by omega,by omega,by go_num,by simp,NA,AY⟩
     case measure=>simp [intOf] <;> omega
    ·have HN:=ab (show n=dX xs (m+1) by have:=HQ.out;rw [hs] at this;omega);clear hs HQ;generalize (xs.getD k Pr.none).br=c at *;go_wp2;go_ret;exact ⟨al (by rw [HS.out,<-HN.out];simp;rw [Bool.eq_iff_iff];simp;omega),AY⟩
theorem rm(v:Value)(xs:List Pr)(i:Nat)(w:World)(hh:HeldP w v xs)(hi:i<xs.length)(hl:xs.length<=1000000) :
  Calls Tryz.prog 210 #[v,.int .i64 i] w (Gives w (.bool (jR xs i))):=by
 cases i with
 |zero=>exact pB v xs w hh
 |succ m=>exact pC v xs m w hh hi hl
def At(w:World)(g:Nat)(xs:List Pr)(k:Nat):Prop:=AD w g (decide (0<k)) (lSt xs k) (cSt xs k) (pSt xs k) (oSt xs k)
def ofI:List (List (Int × Int))->Int->Int->Int->Int
 | [],_,_,d=>d
 | T :: Ts,n,r,d=>if aM T r=true then n else ofI Ts (n+1) r d
theorem kU(r d:Int):∀ (Ts:List (List (Int × Int))) (n:Int) (k:Nat),k<Ts.length->(∀ j,j<k->aM (Ts.getD j []) r=false)->aM (Ts.getD k []) r=true->ofI Ts n r d=n+k
 |[],_,k,hk,_,_=>absurd hk (Nat.not_lt_zero _)
 |T :: Ts,n,0,_,_,h=>by
  have h':aM T r=true:=h;unfold ofI;rw [if_pos h']
  simp
 |T :: Ts,n,k+1,hk,hj,h=>by
  have h':aM T r=false:=hj 0 (by omega);unfold ofI;rw [h',if_neg (by decide),kU r d Ts (n+1) k (by simpa using hk) (fun j h=>hj (j+1) (by omega)) h]
  push_cast
  omega
theorem jn(r d:Int):∀ (Ts:List (List (Int × Int))) (n:Int),(∀ j,j<Ts.length->aM (Ts.getD j []) r=false)->ofI Ts n r d=d
 |[],_,_=>rfl
 |T :: Ts,n,hj=>by
  have h':aM T r=false:=hj 0 (by simp);unfold ofI;rw [h',if_neg (by decide),jn r d Ts (n+1) (fun j h=>hj (j+1) (by simpa using h))]
def tabs09:List (List (Int × Int)):=[tCR,tLF,tControl,tExtend,tZWJ,tRI,tPrepend,tSpacing]
def tabs11:List (List (Int × Int)):=[tCons,tLink,tJoin]
def tabs12:List (List (Int × Int)):=[tWide,tFull,tHalf]
theorem rl{W:World}{g:Nat}{vs:List Value}{t:TypeId}(h:Has W g vs t)(k:Nat)(hk:k<vs.length):W.cell? ⟨g,k,none⟩=some (vs.getD k undef) :=
 h.cell k _ (by simp [List.getD,List.getElem?_eq_getElem hk])
theorem tM(r:Int)(w:World)(r0 : -2147483648<=r)(r1:r<=2147483647):Calls Tryz.prog 66 #[.int .i32 r] w (Gives w (.int .i64 (ofI tabs11 1 r 0))):=by
 go_enter Tryz.func66,Tryz.ntmps66
 go_wp2_with fail
 refine (og _).mono ?_;rintro e w1 ⟨v1,rfl,h1,b1⟩;obtain ⟨ao1,c1,rfl,_⟩:=id h1.view;have H1:=ab h1;clear h1
 go_wp2_with fail
 refine (oh _).mono ?_;rintro e w2 ⟨v2,rfl,h2,b2⟩;obtain ⟨ao2,c2,rfl,_⟩:=id h2.view;have H2:=ab h2;clear h2
 go_wp2_with fail
 refine (om _).mono ?_;rintro e w3 ⟨v3,rfl,h3,b3⟩;obtain ⟨ao3,c3,rfl,_⟩:=id h3.view;have H3:=ab h3;clear h3;go_wp2;obtain ⟨vs,IJ⟩ : ∃ vs:List Value,vs=[.slice ao1 tCons.length c1,.slice ao2 tLink.length c2,.slice ao3 tJoin.length c3]:=⟨_,rfl⟩;obtain ⟨W,hW⟩:=ae (w3.alloc (.cells vs.toArray 188));have hE:w3.alloc (.cells #[.slice ao1 tCons.length c1,.slice ao2 tLink.length c2,.slice ao3 tJoin.length c3] 188)=W:=by rw [hW,IJ]
 rw [hE];have hlen:vs.length=3:=by rw [IJ];rfl
 have hs:Has W w3.heap.size vs 188:=by rw [hW];exact Has.new w3 _ _
 have EF:Below w3.heap.size w3 W:=by rw [hW];exact AU _ _
 have EO:Below w2.heap.size w2 W:=b3.trans (EF.mono b3.size);have ER:Below w1.heap.size w1 W:=b2.trans (EO.mono b2.size);have hall:∀ k,k<3->HeldT .i64 W (vs.getD k undef) (tabs11.getD k []):=by
  intro k hk;rw [IJ]
  match k,hk with
  |0,_=>exact H1.out.below ER
  |1,_=>exact H2.out.below EO
  |2,_=>exact H3.out.below EF
 have hl:Below w.heap.size w W:=b1.trans (ER.mono b1.size);have hsm:∀ k,k<3->(tabs11.getD k []).length<=1000000:=by
  intro k hk
  match k,hk with
  |0,_=>show tCons.length<=1000000;decide +kernel
  |1,_=>show tLink.length<=1000000;decide +kernel
  |2,_=>show tJoin.length<=1000000;decide +kernel
 have HA:=ab hall;have HS:=ab hs;have HM:=ab hsm;clear hall hsm hE IJ hW H1 H2 H3 b1 b2 b3 ER EO EF
 go_loopw [4] (fun i wr=>∃ k:Nat,k<=3/\i=.int .i64 k/\Hid (∀ j,j<k->aM (tabs11.getD j []) r=false)/\Below W.heap.size W wr) (fun i _=>3 - (intOf i).toNat)
 case atStart=>exact ⟨0,Nat.zero_le _,rfl,ab (fun j hj=>by omega),Below.refl _ _⟩
 case round =>
  obtain ⟨k,hk,rfl,HN,AY⟩:=hrel
  by_cases hlt:k<3
  ·have hh:=(HA.out k hlt).below AY;have B0:=(AY.cell (p:=⟨w3.heap.size,k,none⟩) HS.out.lt).trans (rl HS.out k (by rw [hlen];exact hlt));have hm:=HM.out k hlt;obtain ⟨T,hT⟩:=ae (tabs11.getD k []);rw [<-hT] at hh hm;have HT:=ab hT;obtain ⟨ao,cap,hv,_⟩:=id hh.view;rw [hv] at hh B0;have HH:=ab hh;clear hh hv hT
   cases Ce:aM T r with
   |true =>
    have he:=kU r 0 tabs11 1 k hlt HN.out (by rw [<-HT.out];exact Ce);have HE:=ab he;clear he
    go_wp2_with fail
    refine (iO _ T r _ HH.out hm r0 r1).mono ?_;rintro e wx ⟨rfl,bx⟩;have BC:=hl.trans ((AY.trans (bx.mono AY.size)).mono hl.size);go_wp2;go_ret;exact ⟨al (by rw [HE.out];simp;try omega),BC⟩
   |false =>
    have F3:=ab (show ∀ j,j<k+1->aM (tabs11.getD j []) r=false from fun j hj=>by
     by_cases h:j=k
     ·subst h;rw [<-HT.out];exact Ce
     ·exact HN.out j (by omega))
    go_wp2_with fail
    refine (iO _ T r _ HH.out hm r0 r1).mono ?_;rintro e wx ⟨rfl,bx⟩;have C4:=AY.trans (bx.mono AY.size);go_wp2
    go_roundw
    case rel=>exact ⟨k+1,by omega,by go_num,F3,C4⟩
    case measure=>simp [intOf];omega
  ·have he:=jn r 0 tabs11 1 (fun j hj=>HN.out j (Nat.lt_of_lt_of_le hj (show 3<=k by omega)));have HE:=ab he;clear he;have BC:=hl.trans (AY.mono hl.size);go_wp2;go_ret;exact ⟨al (by rw [HE.out];try rfl),BC⟩
theorem tN(r:Int)(w:World)(r0 : -2147483648<=r)(r1:r<=2147483647):Calls Tryz.prog 67 #[.int .i32 r] w (Gives w (.int .i64 (ofI tabs12 1 r 0))):=by
 go_enter Tryz.func67,Tryz.ntmps67
 go_wp2_with fail
 refine (oq _).mono ?_;rintro e w1 ⟨v1,rfl,h1,b1⟩;obtain ⟨ao1,c1,rfl,_⟩:=id h1.view;have H1:=ab h1;clear h1
 go_wp2_with fail
 refine (ou _).mono ?_;rintro e w2 ⟨v2,rfl,h2,b2⟩;obtain ⟨ao2,c2,rfl,_⟩:=id h2.view;have H2:=ab h2;clear h2
 go_wp2_with fail
 refine (ow _).mono ?_;rintro e w3 ⟨v3,rfl,h3,b3⟩;obtain ⟨ao3,c3,rfl,_⟩:=id h3.view;have H3:=ab h3;clear h3;go_wp2;obtain ⟨vs,IJ⟩ : ∃ vs:List Value,vs=[.slice ao1 tWide.length c1,.slice ao2 tFull.length c2,.slice ao3 tHalf.length c3]:=⟨_,rfl⟩;obtain ⟨W,hW⟩:=ae (w3.alloc (.cells vs.toArray 188));have hE:w3.alloc (.cells #[.slice ao1 tWide.length c1,.slice ao2 tFull.length c2,.slice ao3 tHalf.length c3] 188)=W:=by rw [hW,IJ]
 rw [hE];have hlen:vs.length=3:=by rw [IJ];rfl
 have hs:Has W w3.heap.size vs 188:=by rw [hW];exact Has.new w3 _ _
 have EF:Below w3.heap.size w3 W:=by rw [hW];exact AU _ _
 have EO:Below w2.heap.size w2 W:=b3.trans (EF.mono b3.size);have ER:Below w1.heap.size w1 W:=b2.trans (EO.mono b2.size);have hall:∀ k,k<3->HeldT .i64 W (vs.getD k undef) (tabs12.getD k []):=by
  intro k hk;rw [IJ]
  match k,hk with
  |0,_=>exact H1.out.below ER
  |1,_=>exact H2.out.below EO
  |2,_=>exact H3.out.below EF
 have hl:Below w.heap.size w W:=b1.trans (ER.mono b1.size);have hsm:∀ k,k<3->(tabs12.getD k []).length<=1000000:=by
  intro k hk
  match k,hk with
  |0,_=>show tWide.length<=1000000;decide +kernel
  |1,_=>show tFull.length<=1000000;decide +kernel
  |2,_=>show tHalf.length<=1000000;decide +kernel
 have HA:=ab hall;have HS:=ab hs;have HM:=ab hsm;clear hall hsm hE IJ hW H1 H2 H3 b1 b2 b3 ER EO EF
 go_loopw [4] (fun i wr=>∃ k:Nat,k<=3/\i=.int .i64 k/\Hid (∀ j,j<k->aM (tabs12.getD j []) r=false)/\Below W.heap.size W wr) (fun i _=>3 - (intOf i).toNat)
 case atStart=>exact ⟨0,Nat.zero_le _,rfl,ab (fun j hj=>by omega),Below.refl _ _⟩
 case round =>
  obtain ⟨k,hk,rfl,HN,AY⟩:=hrel
  by_cases hlt:k<3
  ·have hh:=(HA.out k hlt).below AY;have B0:=(AY.cell (p:=⟨w3.heap.size,k,none⟩) HS.out.lt).trans (rl HS.out k (by rw [hlen];exact hlt));have hm:=HM.out k hlt;obtain ⟨T,hT⟩:=ae (tabs12.getD k []);rw [<-hT] at hh hm;have HT:=ab hT;obtain ⟨ao,cap,hv,_⟩:=id hh.view;rw [hv] at hh B0;have HH:=ab hh;clear hh hv hT
   cases Ce:aM T r with
   |true =>
    have he:=kU r 0 tabs12 1 k hlt HN.out (by rw [<-HT.out];exact Ce);have HE:=ab he;clear he
    go_wp2_with fail
    refine (iO _ T r _ HH.out hm r0 r1).mono ?_;rintro e wx ⟨rfl,bx⟩;have BC:=hl.trans ((AY.trans (bx.mono AY.size)).mono hl.size);go_wp2;go_ret;exact ⟨al (by rw [HE.out];simp;try omega),BC⟩
   |false =>
    have F3:=ab (show ∀ j,j<k+1->aM (tabs12.getD j []) r=false from fun j hj=>by
     by_cases h:j=k
     ·subst h;rw [<-HT.out];exact Ce
     ·exact HN.out j (by omega))
    go_wp2_with fail
    refine (iO _ T r _ HH.out hm r0 r1).mono ?_;rintro e wx ⟨rfl,bx⟩;have C4:=AY.trans (bx.mono AY.size);go_wp2
    go_roundw
    case rel=>exact ⟨k+1,by omega,by go_num,F3,C4⟩
    case measure=>simp [intOf];omega
  ·have he:=jn r 0 tabs12 1 (fun j hj=>HN.out j (Nat.lt_of_lt_of_le hj (show 3<=k by omega)));have HE:=ab he;clear he;have BC:=hl.trans (AY.mono hl.size);go_wp2;go_ret;exact ⟨al (by rw [HE.out];try rfl),BC⟩
theorem tO(r:Int)(w:World)(r0 : -2147483648<=r)(r1:r<=2147483647):Calls Tryz.prog 64 #[.int .i32 r] w (Gives w (.int .i64 (ofI tabs09 1 r (bi r)))):=by
 go_enter Tryz.func64,Tryz.ntmps64
 go_wp2_with fail
 refine (nV _).mono ?_;rintro e w1 ⟨v1,rfl,h1,b1⟩;obtain ⟨ao1,c1,rfl,_⟩:=id h1.view;have H1:=ab h1;clear h1
 go_wp2_with fail
 refine (nW _).mono ?_;rintro e w2 ⟨v2,rfl,h2,b2⟩;obtain ⟨ao2,c2,rfl,_⟩:=id h2.view;have H2:=ab h2;clear h2
 go_wp2_with fail
 refine (nY _).mono ?_;rintro e w3 ⟨v3,rfl,h3,b3⟩;obtain ⟨ao3,c3,rfl,_⟩:=id h3.view;have H3:=ab h3;clear h3
 go_wp2_with fail
 refine (nZ _).mono ?_;rintro e w4 ⟨v4,rfl,h4,b4⟩;obtain ⟨ao4,c4,rfl,_⟩:=id h4.view;have H4:=ab h4;clear h4
 go_wp2_with fail
 refine (n6 _).mono ?_;rintro e w5 ⟨v5,rfl,h5,b5⟩;obtain ⟨ao5,c5,rfl,_⟩:=id h5.view;have H5:=ab h5;clear h5
 go_wp2_with fail
 refine (n7 _).mono ?_;rintro e w6 ⟨v6,rfl,h6,b6⟩;obtain ⟨ao6,c6,rfl,_⟩:=id h6.view;have H6:=ab h6;clear h6
 go_wp2_with fail
 refine (ob _).mono ?_;rintro e w7 ⟨v7,rfl,h7,b7⟩;obtain ⟨ao7,c7,rfl,_⟩:=id h7.view;have H7:=ab h7;clear h7
 go_wp2_with fail
 refine (oe _).mono ?_;rintro e w8 ⟨v8,rfl,h8,b8⟩;obtain ⟨ao8,c8,rfl,_⟩:=id h8.view;have H8:=ab h8;clear h8;go_wp2;obtain ⟨vs,IJ⟩ : ∃ vs:List Value,vs=[.slice ao1 tCR.length c1,.slice ao2 tLF.length c2,.slice ao3 tControl.length c3,.slice ao4 tExtend.length c4,.slice ao5 tZWJ.length c5,.slice ao6 tRI.length c6,.slice ao7 tPrepend.length c7,.slice ao8 tSpacing.length c8]:=⟨_,rfl⟩;obtain ⟨W,hW⟩:=ae (w8.alloc (.cells vs.toArray 188));have hE:w8.alloc (.cells #[.slice ao1 tCR.length c1,.slice ao2 tLF.length c2,.slice ao3 tControl.length c3,.slice ao4 tExtend.length c4,.slice ao5 tZWJ.length c5,.slice ao6 tRI.length c6,.slice ao7 tPrepend.length c7,.slice ao8 tSpacing.length c8] 188)=W:=by rw [hW,IJ]
 rw [hE];have hlen:vs.length=8:=by rw [IJ];rfl
 have hs:Has W w8.heap.size vs 188:=by rw [hW];exact Has.new w8 _ _
 have MJ:Below w8.heap.size w8 W:=by rw [hW];exact AU _ _
 have MQ:Below w7.heap.size w7 W:=b8.trans (MJ.mono b8.size);have M9:Below w6.heap.size w6 W:=b7.trans (MQ.mono b7.size);have Nb:Below w5.heap.size w5 W:=b6.trans (M9.mono b6.size);have M5:Below w4.heap.size w4 W:=b5.trans (Nb.mono b5.size);have EF:Below w3.heap.size w3 W:=b4.trans (M5.mono b4.size);have EO:Below w2.heap.size w2 W:=b3.trans (EF.mono b3.size);have ER:Below w1.heap.size w1 W:=b2.trans (EO.mono b2.size);have hall:∀ k,k<8->HeldT .i64 W (vs.getD k undef) (tabs09.getD k []):=by
  intro k hk;rw [IJ]
  match k,hk with
  |0,_=>exact H1.out.below ER
  |1,_=>exact H2.out.below EO
  |2,_=>exact H3.out.below EF
  |3,_=>exact H4.out.below M5
  |4,_=>exact H5.out.below Nb
  |5,_=>exact H6.out.below M9
  |6,_=>exact H7.out.below MQ
  |7,_=>exact H8.out.below MJ
 have hl:Below w.heap.size w W:=b1.trans (ER.mono b1.size);have hsm:∀ k,k<8->(tabs09.getD k []).length<=1000000:=by
  intro k hk
  match k,hk with
  |0,_=>show tCR.length<=1000000;decide +kernel
  |1,_=>show tLF.length<=1000000;decide +kernel
  |2,_=>show tControl.length<=1000000;decide +kernel
  |3,_=>show tExtend.length<=1000000;decide +kernel
  |4,_=>show tZWJ.length<=1000000;decide +kernel
  |5,_=>show tRI.length<=1000000;decide +kernel
  |6,_=>show tPrepend.length<=1000000;decide +kernel
  |7,_=>show tSpacing.length<=1000000;decide +kernel
 have HA:=ab hall;have HS:=ab hs;have HM:=ab hsm;clear hall hsm hE IJ hW H1 H2 H3 H4 H5 H6 H7 H8 b1 b2 b3 b4 b5 b6 b7 b8 ER EO EF M5 Nb M9 MQ MJ
 go_loopw [4] (fun i wr=>∃ k:Nat,k<=8/\i=.int .i64 k/\Hid (∀ j,j<k->aM (tabs09.getD j []) r=false)/\Below W.heap.size W wr) (fun i _=>8 - (intOf i).toNat)
 case atStart=>exact ⟨0,Nat.zero_le _,rfl,ab (fun j hj=>by omega),Below.refl _ _⟩
 case round =>
  obtain ⟨k,hk,rfl,HN,AY⟩:=hrel
  by_cases hlt:k<8
  ·have hh:=(HA.out k hlt).below AY;have B0:=(AY.cell (p:=⟨w8.heap.size,k,none⟩) HS.out.lt).trans (rl HS.out k (by rw [hlen];exact hlt));have hm:=HM.out k hlt;obtain ⟨T,hT⟩:=ae (tabs09.getD k []);rw [<-hT] at hh hm;have HT:=ab hT;obtain ⟨ao,cap,hv,_⟩:=id hh.view;rw [hv] at hh B0;have HH:=ab hh;clear hh hv hT
   cases Ce:aM T r with
   |true =>
    have he:=kU r (bi r) tabs09 1 k hlt HN.out (by rw [<-HT.out];exact Ce);have HE:=ab he;clear he
    go_wp2_with fail
    refine (iO _ T r _ HH.out hm r0 r1).mono ?_;rintro e wx ⟨rfl,bx⟩;have BC:=hl.trans ((AY.trans (bx.mono AY.size)).mono hl.size);go_wp2;go_ret;exact ⟨al (by rw [HE.out];simp;try omega),BC⟩
   |false =>
    have F3:=ab (show ∀ j,j<k+1->aM (tabs09.getD j []) r=false from fun j hj=>by
     by_cases h:j=k
     ·subst h;rw [<-HT.out];exact Ce
     ·exact HN.out j (by omega))
    go_wp2_with fail
    refine (iO _ T r _ HH.out hm r0 r1).mono ?_;rintro e wx ⟨rfl,bx⟩;have C4:=AY.trans (bx.mono AY.size);go_wp2
    go_roundw
    case rel=>exact ⟨k+1,by omega,by go_num,F3,C4⟩
    case measure=>simp [intOf];omega
  ·have he:=jn r (bi r) tabs09 1 (fun j hj=>HN.out j (Nat.lt_of_lt_of_le hj (show 8<=k by omega)));have HE:=ab he;clear he;have BC:=hl.trans (AY.mono hl.size)
   go_wp2_with fail
   refine (oF r _ r0 r1).mono ?_;rintro e w' ⟨rfl,rfl⟩;go_wp2;go_ret;exact ⟨al (by rw [HE.out];try rfl),BC⟩
theorem yW(a r:Int):aM [(a,a)] r=decide (r=a):=by
 rw [mS]
 by_cases h:r=a
 ·subst h;simp
 ·rw [decide_eq_false h]
  by_cases h1:a<=r
  ·rw [decide_eq_false (show ¬ r<=a by omega)];simp
  ·rw [decide_eq_false h1];rfl
def kT:List (Int × Int):=[(13,13),(10,10),(8205,8205),(127462,127487)]
theorem lB{r:Int}(h:aM kT r=false):r≠13/\r≠10/\r≠8205/\¬ (127462<=r/\r<=127487):=by
 simp [aM,kT] at h
 omega
theorem Ay:apart tControl kT=true:=by decide +kernel
theorem Az:apart tExtend kT=true:=by decide +kernel
theorem AA:apart tSpacing tPrepend=true:=by decide +kernel
theorem yX(r:Int):ofI tabs09 1 r (bi r)=bQ r:=by
 simp only [tabs09,ofI,tCR,tLF,tZWJ,yW,tRI,mS];unfold bQ bm
 by_cases EW:r=13
 ·simp [EW]
 by_cases h10:r=10
 ·simp [h10]
 simp only [EW,h10,decide_false,Bool.false_eq_true,if_false]
 cases hc:aM tControl r with
 |true =>
  obtain ⟨_,_,h1,h2⟩:=lB (jZ Ay hc)
  simp [h1,h2]
 |false =>
  cases he:aM tExtend r with
  |true =>
   obtain ⟨_,_,h1,h2⟩:=lB (jZ Az he)
   simp [h1,h2]
  |false =>
   by_cases hz:r=8205
   ·simp [hz]
   by_cases hr:127462<=r/\r<=127487
   ·simp [hz,hr]
   ·have Mn:¬ ((decide (127462<=r) && decide (r<=127487))=true):=by simpa using hr
    simp only [hz,hr,Mn,decide_false,Bool.false_eq_true,if_false]
    cases hs:aM tSpacing r with
    |true=>rw [jZ AA hs];simp
    |false =>
     cases hp:aM tPrepend r <;> simp
theorem vZ(r:Int):ofI tabs11 1 r 0=dy r:=rfl
theorem wg(r:Int):ofI tabs12 1 r 0=eN r:=rfl
theorem tK(r:Int)(w:World)(r0 : -2147483648<=r)(r1:r<=2147483647):Calls Tryz.prog 65 #[.int .i32 r] w (Gives w (.bool (aM tPict r))):=by
 go_enter Tryz.func65,Tryz.ntmps65
 go_wp2_with fail
 refine (pm _).mono ?_;rintro e w1 ⟨v1,rfl,h1,b1⟩
 go_wp2_with fail
 refine (iO _ tPict r _ h1 (by rw [fS];decide) r0 r1).mono ?_;rintro e w2 ⟨rfl,b2⟩;go_wp2;go_ret;exact ⟨af,b1.trans (b2.mono b1.size)⟩
def gS(r:Int):Value:=.agg #[.int .i64 (bQ r),.bool (aM tPict r),.int .i64 (dy r),.int .i64 (eN r)]
theorem pl(w:World)(g:Nat)(a b c d:Value):But g w.heap.size w ((((w.setCell ⟨g,0,none⟩ a).setCell ⟨g,1,none⟩ b).setCell ⟨g,2,none⟩ c).setCell ⟨g,3,none⟩ d) :=
 ((((But.refl _ _ _).set 0 _).set 1 _).set 2 _).set 3 _
theorem tJ(r:Int)(w:World):Calls Tryz.prog 149 #[.int .i32 r] w (Gives w (gS r)):=by
 have M2:=Has.new w [Value.int .i64 0,.bool false,.int .i64 0,.int .i64 0] 33;have HR:=ab M2;have hl0:Below w.heap.size w (w.alloc (.cells [Value.int .i64 0,.bool false,.int .i64 0,.int .i64 0].toArray 33)):=AU _ _;have HL:=ab hl0;clear M2 hl0
 go_enter Tryz.func149,Tryz.ntmps149
 go_wp2_with fail
 refine (yZ r _).mono ?_;rintro e w1 ⟨rfl,b1⟩
 go_wp2_with fail
 refine (wj r _).mono ?_;rintro e w2 ⟨rfl,b2⟩
 go_wp2_with fail
 refine (yY r _).mono ?_;rintro e w3 ⟨rfl,b3⟩
 go_wp2_with fail
 refine (wh r _).mono ?_;rintro e w4 ⟨rfl,b4⟩;have hb:=b1.trans ((b2.trans ((b3.trans (b4.mono b3.size)).mono b2.size)).mono b1.size);have hr4:=HR.out.below hb HR.out.lt;have hl4:=HL.out.trans (hb.mono HL.out.size);have g0:=hr4.cell 0 _ rfl;have g1:=hr4.cell 1 _ rfl;have g2:=hr4.cell 2 _ rfl;have g3:=hr4.cell 3 _ rfl;have f0:=hr4.free 0;have f1:=hr4.free 1;have f2:=hr4.free 2;have f3:=hr4.free 3;have hlt:=hr4.lt;have hbl:=fun x y z u=>hl4.trans ((pl w4 w.heap.size x y z u).below hl4.size (Nat.le_refl _))
 have Ca:=ab hbl;clear hb hr4 hl4 hbl b1 b2 b3 b4 HR HL;go_wp2;exact bodyPost_ret (v:=gS r) (by simp [results,Tryz.results149,go_sem,gS,g0,g1,g2,g3]) rfl ⟨rfl,Ca.out _ _ _ _⟩
theorem lA(r:Int)(w:World)(r0 : -2147483648<=r)(r1:r<=2147483647):Calls Tryz.prog 13 #[.int .i32 r] w (Gives w (gS r)):=by
 have M2:=Has.new w [Value.int .i64 0,.bool false,.int .i64 0,.int .i64 0] 33;have HR:=ab M2;have hl0:Below w.heap.size w (w.alloc (.cells [Value.int .i64 0,.bool false,.int .i64 0,.int .i64 0].toArray 33)):=AU _ _;have HL:=ab hl0;clear M2 hl0
 go_enter Tryz.func13,Tryz.ntmps13
 go_wp2_with fail
 refine (tO r _ r0 r1).mono ?_;rintro e w1 ⟨rfl,b1⟩;rw [yX r]
 go_wp2_with fail
 refine (tK r _ r0 r1).mono ?_;rintro e w2 ⟨rfl,b2⟩
 go_wp2_with fail
 refine (tM r _ r0 r1).mono ?_;rintro e w3 ⟨rfl,b3⟩;rw [vZ r]
 go_wp2_with fail
 refine (tN r _ r0 r1).mono ?_;rintro e w4 ⟨rfl,b4⟩;rw [wg r];have hb:=b1.trans ((b2.trans ((b3.trans (b4.mono b3.size)).mono b2.size)).mono b1.size);have hr4:=HR.out.below hb HR.out.lt;have hl4:=HL.out.trans (hb.mono HL.out.size);have g0:=hr4.cell 0 _ rfl;have g1:=hr4.cell 1 _ rfl;have g2:=hr4.cell 2 _ rfl;have g3:=hr4.cell 3 _ rfl;have f0:=hr4.free 0;have f1:=hr4.free 1;have f2:=hr4.free 2;have f3:=hr4.free 3;have hlt:=hr4.lt;have hbl:=fun x y z u=>hl4.trans ((pl w4 w.heap.size x y z u).below hl4.size (Nat.le_refl _))
 have Ca:=ab hbl;clear hb hr4 hl4 hbl b1 b2 b3 b4 HR HL;go_wp2;exact bodyPost_ret (v:=gS r) (by simp [results,Tryz.results13,go_sem,gS,g0,g1,g2,g3]) rfl ⟨rfl,Ca.out _ _ _ _⟩
def bh(r:Int):Pr:=⟨bQ r,aM tPict r,dy r,eN r⟩
def aq(xs:List Int):List Pr:=xs.map bh
theorem mQ{xs:List Int}{k:Nat}(h:k<xs.length):(aq xs).getD k Pr.none=bh (xs.getD k 0):=by
 have h':k<(aq xs).length:=by simpa [aq] using h
 simp [List.getD,List.getElem?_eq_getElem h,aq]
theorem cX(xs:List Int):(aq xs).length=xs.length:=by simp [aq]
theorem mR:(Tryz.prog.info? 33).map (fun i=>(i.zero,i.size,i.bytes))=some (some (.agg #[.int .i64 0,.bool false,.int .i64 0,.int .i64 0]),4,32):=by kernel_rfl
def toI(l:List Nat):List Int:=l.map fun (k:Nat)=>(k:Int)
theorem yV(l:List Nat):(toI l).length=l.length:=by simp [toI]
theorem z6{l:List Nat}{i:Nat}(h:i<l.length):(toI l).getD i 0=(l[i]:Nat):=by
 simp [List.getD,toI,List.getElem?_eq_getElem h]
def cQ(xs:List Int):Prop:=∀ i,i<xs.length -> -2147483648<=xs.getD i 0/\xs.getD i 0<=2147483647
def vX(w:World)(e:TypeId)(l:List Int)(en:Ending)(w':World):Prop:=∃ v n,en=.returned v/\w'.ownsRow w.heap.size e 1 v n (l.map (Value.int .i64))/\Below w.heap.size w w'
theorem pj:(Tryz.prog.info? 3).map (fun i=>(i.zero,i.size,i.bytes))=some (some (.int .i64 0),1,8):=by kernel_rfl
theorem vY(l:List Nat)(k:Nat):(toI (l++[k])).map (Value.int .i64)=(toI l).map (Value.int .i64)++[.int .i64 (k:Int)]:=by simp [toI]
theorem tI{w:World}{B B' e size:Nat}{v:Value}{n:Nat}{xs:List Value}(h:w.ownsRow B e size v n xs)(hb:B'<=B):w.ownsRow B' e size v n xs:=by
 refine ⟨h.1,?_⟩
 rcases h.2 with hn | ⟨g,cap,cur,rfl,hB,rest⟩
 ·exact .inl hn
 ·exact .inr ⟨g,cap,cur,rfl,Nat.le_trans hb hB,rest⟩
theorem rg(v:Value)(xs:List Int)(w:World)(hx:Held .i32 w v xs)(hn:xs.length<=1000000)(hr:cQ xs) :
  Calls Tryz.prog 209 #[v] w fun e w'=>∃ v',e=.returned v'/\HeldP w' v' (aq xs)/\Below w.heap.size w w':=by
 obtain ⟨ao,ca,rfl,hc⟩:=hx.view;have HC:=ab hc;have HR:=ab hr;clear hc hx hr
 go_enter Tryz.func209,Tryz.ntmps209
 go_wp2
 go_loopw [3,4] (fun p i wr=>∃ k:Nat,k<=xs.length/\i=.int .i64 k/\wr.ownsRow w.heap.size 33 4 p k (bV ((aq xs).take k))/\Below w.heap.size w wr) (fun _ i _=>xs.length - (intOf i).toNat)
 case atStart=>exact ⟨0,Nat.zero_le _,rfl,World.ownsRow_nil _ _ _ _,Below.refl _ _⟩
 case round =>
  obtain ⟨k,hk,rfl,hown,AY⟩:=hrel
  by_cases hlt:k<xs.length
  ·obtain ⟨b,off,rfl,hb,B0⟩:=HC.out k hlt;have B0:=(AY.cell (p:=⟨b,off+k,none⟩) hb).trans B0;obtain ⟨r0,r1⟩:=HR.out k hlt;have Db:=pz (aq xs) k (by rw [cX];exact hlt);rw [mQ hlt] at Db;obtain ⟨r,hr⟩:=ae (xs.getD k 0);rw [<-hr] at B0 r0 r1 Db;have Fc:=ab Db;have HOW:=ab hown;clear hr Db hown
   go_wp2_with fail
   refine (lA r _ r0 r1).mono ?_;rintro e w1 ⟨rfl,b1⟩;have hown1:=aA HOW.out b1;have hb1:=AY.trans (b1.mono AY.size);rw [show gS r=.agg #[.int .i64 (bQ r),.bool (aM tPict r),.int .i64 (dy r),.int .i64 (eN r)] from rfl];clear B0
   go_wp2_with (at_builtin;refine fh w1 rfl (.tmp 11) (.tmp 17) 28 rfl w.heap.size 33 (.agg #[.int .i64 0,.bool false,.int .i64 0,.int .i64 0]) 4 32 Tryz.underlying28 mR rfl (by decide) u3 k (bV ((aq xs).take k)) rfl hown1 [.int .i64 (bQ r),.bool (aM tPict r),.int .i64 (dy r),.int .i64 (eN r)] 1 1 rfl rfl (by intro u hu;simp at hu;rcases hu with rfl | rfl | rfl | rfl <;> rfl) (by omega) (by omega) hb1.size ?_)
   intro v' w' hown' hb';have hown2:w'.ownsRow w.heap.size 33 4 v' (k+1) (bV ((aq xs).take (k+1))):=by rw [Fc.out];exact hown'
   have MV:=hb1.trans hb';clear hown1 hown';go_wp2
   go_roundw
   case rel=>exact ⟨k+1,by omega,by go_num,hown2,MV⟩
   case measure=>simp [intOf] <;> omega
  ·obtain rfl:k=xs.length:=by omega
   rw [List.take_of_length_le (by rw [cX];exact Nat.le_refl _)] at hown;have HP:=ab (iF hown);clear hown;go_wp2;go_ret;exact ⟨_,rfl,HP.out,AY⟩
theorem pk(v:Value)(xs:List Int)(w:World)(hx:Held .i32 w v xs)(hn:xs.length<=1000000)(hr:cQ xs) :
  Calls Tryz.prog 158 #[v] w (vX w 3 (toI (aS (jR (aq xs)) xs.length))):=by
 obtain ⟨ao,ca,rfl,_⟩:=hx.view;have HX:=ab hx;have HR:=ab hr;clear hx hr
 go_enter Tryz.func158,Tryz.ntmps158
 go_wp2_with fail
 refine (rg _ xs _ HX.out hn HR.out).mono ?_;rintro e w1 ⟨v1,rfl,QG,b1⟩;obtain ⟨po,pcap,rfl,_⟩:=id QG;have Oh:=ab QG;clear QG;rw [cX];go_wp2
 go_loopw [3,5] (fun p i wr=>∃ k:Nat,k<=xs.length/\i=.int .i64 k/\wr.ownsRow w1.heap.size 3 1 p (aS (jR (aq xs)) k).length ((toI (aS (jR (aq xs)) k)).map (Value.int .i64))/\Below w1.heap.size w1 wr) (fun _ i _=>xs.length - (intOf i).toNat)
 case atStart=>exact ⟨0,Nat.zero_le _,rfl,World.ownsRow_nil _ _ _ _,Below.refl _ _⟩
 case round =>
  obtain ⟨k,hk,rfl,hown,AY⟩:=hrel
  by_cases hlt:k<xs.length
  ·have hj:=rm _ (aq xs) k wr (Oh.out.below AY) (by rw [cX];exact hlt) (by rw [cX];exact hn);rw [cX] at hj;have HJ:=ab hj;have HOW:=ab hown;have DG:=lz (jR (aq xs)) k;have hsu:=gR (jR (aq xs)) k;clear hj hown
   go_wp2_with fail
   refine HJ.out.mono ?_;rintro e w2 ⟨rfl,b2⟩;have hown2:=aA HOW.out b2;have hb2:=AY.trans (b2.mono AY.size)
   cases hj:jR (aq xs) k with
   |true =>
    rw [hj] at hsu;simp only [if_true,List.append_nil] at hsu;rw [<-hsu] at hown2;have HOW2:=ab hown2;clear hown2 hj hsu;go_wp2
    go_roundw
    case rel=>exact ⟨k+1,by omega,by go_num,HOW2.out,hb2⟩
    case measure=>simp [intOf] <;> omega
   |false =>
    rw [hj] at hsu;simp only [Bool.false_eq_true,if_false] at hsu;have HSU:=ab hsu;have hlen:(aS (jR (aq xs)) (k+1)).length=(aS (jR (aq xs)) k).length+1:=by rw [hsu];simp
    have HL:=ab hlen;clear hj hsu hlen
    go_wp2_with (at_builtin;refine bK w2 rfl (.tmp 18) (.tmp 20) 76 rfl w1.heap.size 3 (.int .i64 0) 8 Tryz.underlying76 pj rfl u3 (aS (jR (aq xs)) k).length ((toI (aS (jR (aq xs)) k)).map (Value.int .i64)) rfl hown2 [.int .i64 (k:Int)] 1 1 rfl rfl (by intro u hu;simp at hu;rcases hu with rfl <;> rfl) (by omega) (by omega) hb2.size ?_)
    intro v' w' hown' hb';have CO:w'.ownsRow w1.heap.size 3 1 v' (aS (jR (aq xs)) (k+1)).length ((toI (aS (jR (aq xs)) (k+1))).map (Value.int .i64)):=by rw [HL.out,HSU.out,vY];exact hown'
    have hb3:=hb2.trans hb';clear hown2 hown';go_wp2
    go_roundw
    case rel=>exact ⟨k+1,by omega,by go_num,CO,hb3⟩
    case measure=>simp [intOf] <;> omega
  ·obtain rfl:k=xs.length:=by omega
   have HO:=ab (tI hown b1.size);have BC:=b1.trans (AY.mono b1.size);clear hown;go_wp2;go_ret;exact ⟨_,_,rfl,HO.out,BC⟩
section
attribute [local go_sem] Oper.semAt_some
theorem kS(xs:List Pr):jR xs 0=false:=by
 rw [lH]
 simp [cC]
structure Cu where
 p:Nat × Nat
 v:Value
def XCu(xs:List Int)(lo hi:Nat)(x:Cu)(W:World):Prop:=∃ g,x.v=.slice (some ⟨g,x.p.1,none⟩) (x.p.2 - x.p.1) (x.p.2 - x.p.1)/\lo<=g/\g<hi/\g<W.heap.size/\x.p.1<x.p.2/\x.p.2<=xs.length/\∀ i,i<xs.length->W.cell? ⟨g,i,none⟩=some (.int .i32 (xs.getD i 0))
def clS(xs:List Int):List (Nat × Nat):=fe (jR (aq xs)) xs.length
end
section
attribute [local go_sem] Oper.semAt_some
section
variable {P : Program} {F : Fence} {nf : Nat} {α : Type} {E : Elem α} {Z : an} {w : World} {v u : Value} {L M : List α} {B : Nat} {ty : TypeId}
end
end
section
attribute [local go_sem] Oper.semAt_some
def rowE:Elem (List Int):=slE (aF .i32)
theorem yU:(Tryz.prog.info? 27).map (fun i=>(i.zero,i.size,i.bytes))=some (some (.slice none 0 0),rowE.size,24):=by kernel_rfl
def sy(w:World)(L:List (List Int))(e:Ending)(w':World):Prop:=∃ v',e=.returned v'/\OwnE rowE (fun b=>w.heap.size<=b) w' w.heap.size 27 v' L/\Below w.heap.size w w'
def bJ(xs:List Int):List (List Int):=(clS xs).map (bw xs)
theorem _root_.Go.Proofs.YtoeggiplcaegoaaGreatDoor.HeldE.zoned{α:Type}{E:Elem α}{Z Y:an}{w:World}{v:Value}{L:List α}(h:HeldE E Z w v L)(hy:∀ b,b<w.heap.size->Z b->Y b):HeldE E Y w v L:=h.zone hy
theorem XCu.held{xs:List Int}{lo hi:Nat}{x:Cu}{W:World}(h:XCu xs lo hi x W):Held .i32 W x.v (bw xs x.p):=by
 obtain ⟨g,hv,h1,h2,h3,h4,h5,h6⟩:=h;have hl:=ff xs x.p (Nat.le_of_lt h4) h5;rw [hv,<-hl];refine ik h3 fun i hi=>?_
 rw [hl] at hi;rw [h6 _ (by omega)]
 congr 2
 unfold bw
 simp [List.getD,List.getElem?_take,hi,List.getElem?_drop]
theorem XCu.upd{xs:List Int}{lo hi:Nat}{x:Cu}{W W':World}{S:an}(h:XCu xs lo hi x W)(hu:Upd S W W')(hs:∀ b,lo<=b->b<hi->¬ S b):XCu xs lo hi x W':=by
 obtain ⟨g,hv,h1,h2,h3,h4,h5,h6⟩:=h;exact ⟨g,hv,h1,h2,Nat.lt_of_lt_of_le h3 hu.size,h4,h5,fun i hi=>(hu.keep.cell h3 (hs g h1 h2)).trans (h6 i hi)⟩
end
theorem rc{xs:List Int}{i:Nat}(hi:i<(aS (jR (aq xs)) xs.length).length):∃ a b:Nat,(toI (aS (jR (aq xs)) xs.length)++[(xs.length:Int)]).getD i 0=(a:Int)/\(toI (aS (jR (aq xs)) xs.length)++[(xs.length:Int)]).getD (i+1) 0=(b:Int)/\(clS xs).getD i (0,0)=(a,b)/\a<b/\b<=xs.length:=by
 have h0:=tH (jR (aq xs)) (kS _) xs.length i hi;have hl:=iN (jR (aq xs)) (kS _) xs.length;have hm:(clS xs).getD i (0,0) ∈ clS xs:=by
  unfold clS;rw [List.getD,List.getElem?_eq_getElem (by omega)];exact List.getElem_mem _
 have Dc:=jX _ _ _ hm;have e:toI (aS (jR (aq xs)) xs.length)++[(xs.length:Int)]=toI (aS (jR (aq xs)) xs.length++[xs.length]):=by simp [toI]
 have hg:∀ k,k<(aS (jR (aq xs)) xs.length++[xs.length]).length->(toI (aS (jR (aq xs)) xs.length++[xs.length])).getD k 0=(((aS (jR (aq xs)) xs.length++[xs.length]).getD k 0:Nat):Int):=fun k hk=>by
  rw [z6 hk]
  simp [List.getD,List.getElem?_eq_getElem hk]
 have h1:(clS xs).getD i (0,0)=_:=h0;rw [h1] at Dc;refine ⟨_,_,?_,?_,h1,Dc.1,Dc.2⟩
 ·rw [e,hg i (by rw [List.length_append];omega)]
 ·rw [e,hg (i+1) (by rw [List.length_append,List.length_singleton];omega)]
theorem tE(xs:List Int)(i:Nat)(h:i<(clS xs).length):(bJ xs).take (i+1)=(bJ xs).take i++[bw xs ((clS xs).getD i (0,0))]:=by
 unfold bJ;rw [List.take_succ_eq_append_getElem (by rw [List.length_map];exact h),List.getElem_map]
 simp [List.getD,List.getElem?_eq_getElem h]
theorem vV(xs:List Int):(bJ xs).length=(aS (jR (aq xs)) xs.length).length:=by
 unfold bJ;rw [List.length_map];exact iN _ (kS _) _
theorem tF(Z:an)(v:Value)(xs:List Int)(w:World)(hx0:HeldE (aF .i32) Z w v xs)(hn:xs.length<=1000000)(hr:cQ xs):Calls Tryz.prog 90 #[v] w (sy w (bJ xs)):=by
 have hx:=hx0.ints;obtain ⟨ao,ca,rfl,hmx,hmy,_⟩:=id hx0;have HX:=ab hx;have Jv:=ab hmy;have HST:=ab (pk _ xs w hx hn hr);obtain ⟨n,EX⟩:=ae (xs.length);have HN:=ab EX;have Jp:=ab (vV xs);have NQ:=ab (fun i h=>@rc xs i h);have GA:=ab (lz (jR (aq xs)) xs.length);obtain ⟨ST,hST⟩:=ae (aS (jR (aq xs)) xs.length);rw [<-hST] at HST Jp NQ GA;rw [<-EX] at HX HST hn hmx NQ GA ⊢;clear hx hx0 hr EX hST hmy
 go_enter Tryz.func90,Tryz.ntmps90
 go_wp2_with fail
 refine HST.out.mono ?_;rintro e w1 ⟨v1,k1,rfl,BX,b1⟩;have BX:=dM (Z:=fun b=>w.heap.size<=b) BX;have hb2:=AU w1 (.cells [.int .i64 (n:Int)].toArray 3);have BJ:=BX.lt;have HU:=ab (show HeldE (aF .i64) (fun b=>w.heap.size<=b/\v1.ownBlock≠some b) (w1.alloc (.cells [.int .i64 (n:Int)].toArray 3)) (.slice (some ⟨w1.heap.size,0,none⟩) 1 1) [(n:Int)] from aT (Y:=fun _=>False) [.int .i64 (n:Int)] (n:Int) rfl (fun _ _ h=>h.elim) ⟨b1.size,fun e=>by have:=(BJ _ e).2;omega⟩);have Cg:=ab (BX.below hb2);have Bt:=ab (b1.trans (hb2.mono b1.size));have OJ:(toI ST).length=ST.length:=yV ST;have FV:=ab OJ;clear BX b1 hb2 BJ OJ
 go_wp2_with (at_builtin;refine ax (E:=aF .i64) (Z:=fun b=>w.heap.size<=b) rfl (.tmp 7) (.tmp 10) 76 rfl (.int .i64 0) 8 Tryz.underlying76 pj rfl (by decide) rfl rfl Cg.out HU.out (by rw [FV.out];simp only [List.length_singleton];have:=GA.out;omega) (by rw [FV.out];simp only [List.length_singleton];have:=GA.out;omega) Bt.out.size ?_)
 intro v2 w2 BE b2 _ _;have E5:=(BE.held (Z:=fun b=>w.heap.size<=b) (fun b h _=>h)).ints;obtain ⟨aa,cc,rfl,J7⟩:=E5.view;have Hd:=ab J7;have HAT:=ab (show (toI ST++[(n:Int)]).length=ST.length+1 from by rw [List.length_append,FV.out];rfl);obtain ⟨m,hm⟩:=ae (ST.length);have HM:=ab hm;rw [HAT.out,<-hm] at Hd ⊢;have BY:=ab (Bt.out.trans b2);have hmn:m<=1000000:=by rw [hm];have:=GA.out;omega
 have HSP2:=ab (show ∀ i,i<m->_ from fun i h=>NQ.out i (by rw [<-hm];exact h));clear BE b2 E5 J7 HU Cg Bt hm HST;go_wp2
 go_loopw [3,5] (fun ov i wr=>∃ k:Nat,k<=m/\i=.int .i64 k/\OwnE rowE (fun b=>w2.heap.size<=b) wr w2.heap.size 27 ov ((bJ xs).take k)/\Below w2.heap.size w2 wr) (fun _ i _=>m - (intOf i).toNat)
 case atStart=>exact ⟨0,Nat.zero_le _,rfl,OwnE.nil _ _ _ _ _,Below.refl _ _⟩
 case round =>
  obtain ⟨k,hk,rfl,hown,AY⟩:=hrel;obtain ⟨ov,JW⟩:=ae (u3);rw [<-JW] at hown ⊢;have HO:=ab hown;have Bf:=ab AY;clear JW hown AY
  by_cases hlt:k<m
  ·obtain ⟨a,b,ha,hb,hp,hab,Iu⟩:=HSP2.out k hlt;obtain ⟨ba,oa,e1,hb1,c1⟩:=Hd.out k (by omega);obtain ⟨ba',oa',e2,_,c2⟩:=Hd.out (k+1) (by omega);subst e1
   cases e2
   rw [ha] at c1;rw [hb] at c2;obtain ⟨bx,ox,ex,C4,_⟩:=HX.out.spots 0 (by rw [<-HN.out];omega);subst ex;have c1:=(Bf.out.cell (p:=⟨ba,oa+k,none⟩) hb1).trans c1;have c2:=(Bf.out.cell (p:=⟨ba,oa+(k+1),none⟩) hb1).trans c2;have LI:=ab c1;have Oz:=ab c2;have Ga:=ab (show ba<wr.heap.size from Nat.lt_of_lt_of_le hb1 Bf.out.size);have J8:=ab (tE xs k (by have h9:=Jp.out;have:=HM.out;unfold bJ at h9;rw [List.length_map] at h9;omega));have hpl:((bJ xs).take k).length<=1000000:=by rw [List.length_take];omega
   obtain ⟨CP,Ql⟩:=ae ((bJ xs).take k);rw [hp,<-Ql] at J8;rw [<-Ql] at HO hpl;have Jb:=ab hpl;have BH:=ab HO.out.lt;have IG:=ab Bf.out.size;have HSLI:=ab (show ∀ w',Below w.heap.size w w'->Held .i32 w' (.slice (some ⟨bx,ox+a,none⟩) (b - a) (ca - a)) (bw xs (a,b)) from fun w' h=>by
    have hs:=(HX.out.below h).spots;have hl:=ff xs (a,b) (Nat.le_of_lt hab) (by rw [<-HN.out];exact Iu);have hh:=ik (k:=.i32) (w:=w') (b:=bx) (off:=ox+a) (cap:=ca - a) (xs:=bw xs (a,b)) (Nat.lt_of_lt_of_le C4 h.size) (fun i hi=>by
     rw [hl] at hi;obtain ⟨b9,o9,e9,_,h9⟩:=hs (a+i) (by rw [<-HN.out];simp only at hi;omega)
     cases e9
     rw [Nat.add_assoc,h9]
     congr 2
     unfold bw;simp only at hi
     simp [List.getD,List.getElem?_take,hi,List.getElem?_drop])
    rw [hl] at hh;exact hh)
   have HSLN:=ab (show (bw xs (a,b)).length<=1000000/\0<(bw xs (a,b)).length from by rw [ff xs (a,b) (Nat.le_of_lt hab) (by rw [<-HN.out];exact Iu)];simp only;omega);have KO:=ab (BY.out.trans (Bf.out.mono BY.out.size));have LL:ca - a≠0:=by omega
   have hac2:((ca - a == 0)=false):=by rw [beq_eq_false_iff_ne];exact LL
   have hz1:a<=b:=by omega
   have hz2:b<=ca:=by omega
   have hz3:(a:Int)<=b:=by omega
   have hz4:(b:Int)<=ca:=by omega
   have hne:ca≠a:=by omega
   have hkm:k<m+1:=by omega
   have hkm1:k+1<m+1:=by omega
   have Kt:IntKind.i64.wrap ((k:Int)+1)=(k:Int)+1:=by rw [IntKind.wrap_i64];omega
   have hkmi:(k:Int)<(m:Int)+1:=by omega
   have hkmj:(k:Int)+1<(m:Int)+1:=by omega
   clear hp Ql hpl ha hb C4 hb1 hmx;go_wp2;obtain ⟨Bw,C7⟩ : ∃ EE:Nat->Value->World->Prop,EE=fun jj xx ww=>match jj with
     |0=>xx=ov
     |1=>(fun x w'=>∃ g9,x=.slice (some ⟨g9,0,none⟩) 0 0/\w'.ownsRow wr.heap.size 21 1 (.slice (some ⟨g9,0,none⟩) 0 0) 0 []) xx ww
     |2=>xx=.slice (some ⟨bx,ox,none⟩) n ca
     |3=>xx=.slice (some ⟨ba,oa,none⟩) (m+1) cc
     |4=>xx=.int .i64 (k:Int)
     |5=>xx=.pointer (some ⟨ba,oa+k,none⟩)
     |6=>xx=.int .i64 (a:Int)
     |7=>xx=.slice (some ⟨ba,oa,none⟩) (m+1) cc
     |8=>xx=.int .i64 (k:Int)
     |9=>xx=.int .i64 (k+1:Int)
     |10=>xx=.pointer (some ⟨ba,oa+(k+1),none⟩)
     |11=>xx=.int .i64 (b:Int)
     |12=>xx=.slice (some ⟨bx,ox+a,none⟩) (b - a) (ca - a)
     |13=>(fun x w'=>HeldE (aF .i32) (fun b=>wr.heap.size<=b) w' x (bw xs (a,b))) xx ww
     |14=>(fun x w'=>HeldE rowE (fun b=>wr.heap.size<=b) w' x [bw xs (a,b)]) xx ww
     |15=>(fun x w'=>OwnE rowE (fun b=>w2.heap.size<=b) w' w2.heap.size 27 x (CP++[bw xs (a,b)])) xx ww
     |16=>(fun x w'=>OwnE rowE (fun b=>w2.heap.size<=b) w' w2.heap.size 27 x (CP++[bw xs (a,b)])) xx ww
     |_=>True:=⟨_,rfl⟩
   have erg0:∀ xx ww,Bw 0 xx ww=(xx=ov):=fun xx ww=>congrFun (congrFun (congrFun C7 0) xx) ww
   have erg1:∀ xx ww,Bw 1 xx ww=((fun x w'=>∃ g9,x=.slice (some ⟨g9,0,none⟩) 0 0/\w'.ownsRow wr.heap.size 21 1 (.slice (some ⟨g9,0,none⟩) 0 0) 0 []) xx ww):=fun xx ww=>congrFun (congrFun (congrFun C7 1) xx) ww
   have erg2:∀ xx ww,Bw 2 xx ww=(xx=.slice (some ⟨bx,ox,none⟩) n ca):=fun xx ww=>congrFun (congrFun (congrFun C7 2) xx) ww
   have erg3:∀ xx ww,Bw 3 xx ww=(xx=.slice (some ⟨ba,oa,none⟩) (m+1) cc):=fun xx ww=>congrFun (congrFun (congrFun C7 3) xx) ww
   have erg4:∀ xx ww,Bw 4 xx ww=(xx=.int .i64 (k:Int)):=fun xx ww=>congrFun (congrFun (congrFun C7 4) xx) ww
   have erg5:∀ xx ww,Bw 5 xx ww=(xx=.pointer (some ⟨ba,oa+k,none⟩)):=fun xx ww=>congrFun (congrFun (congrFun C7 5) xx) ww
   have erg6:∀ xx ww,Bw 6 xx ww=(xx=.int .i64 (a:Int)):=fun xx ww=>congrFun (congrFun (congrFun C7 6) xx) ww
   have erg7:∀ xx ww,Bw 7 xx ww=(xx=.slice (some ⟨ba,oa,none⟩) (m+1) cc):=fun xx ww=>congrFun (congrFun (congrFun C7 7) xx) ww
   have erg8:∀ xx ww,Bw 8 xx ww=(xx=.int .i64 (k:Int)):=fun xx ww=>congrFun (congrFun (congrFun C7 8) xx) ww
   have erg9:∀ xx ww,Bw 9 xx ww=(xx=.int .i64 (k+1:Int)):=fun xx ww=>congrFun (congrFun (congrFun C7 9) xx) ww
   have erg10:∀ xx ww,Bw 10 xx ww=(xx=.pointer (some ⟨ba,oa+(k+1),none⟩)):=fun xx ww=>congrFun (congrFun (congrFun C7 10) xx) ww
   have erg11:∀ xx ww,Bw 11 xx ww=(xx=.int .i64 (b:Int)):=fun xx ww=>congrFun (congrFun (congrFun C7 11) xx) ww
   have erg12:∀ xx ww,Bw 12 xx ww=(xx=.slice (some ⟨bx,ox+a,none⟩) (b - a) (ca - a)):=fun xx ww=>congrFun (congrFun (congrFun C7 12) xx) ww
   have erg13:∀ xx ww,Bw 13 xx ww=((fun x w'=>HeldE (aF .i32) (fun b=>wr.heap.size<=b) w' x (bw xs (a,b))) xx ww):=fun xx ww=>congrFun (congrFun (congrFun C7 13) xx) ww
   have erg14:∀ xx ww,Bw 14 xx ww=((fun x w'=>HeldE rowE (fun b=>wr.heap.size<=b) w' x [bw xs (a,b)]) xx ww):=fun xx ww=>congrFun (congrFun (congrFun C7 14) xx) ww
   have erg15:∀ xx ww,Bw 15 xx ww=((fun x w'=>OwnE rowE (fun b=>w2.heap.size<=b) w' w2.heap.size 27 x (CP++[bw xs (a,b)])) xx ww):=fun xx ww=>congrFun (congrFun (congrFun C7 15) xx) ww
   have erg16:∀ xx ww,Bw 16 xx ww=((fun x w'=>OwnE rowE (fun b=>w2.heap.size<=b) w' w2.heap.size 27 x (CP++[bw xs (a,b)])) xx ww):=fun xx ww=>congrFun (congrFun (congrFun C7 16) xx) ww
   obtain ⟨AZ,A6⟩ : ∃ CC:Array Bool->World->Prop,CC=fun L8 w'=>Below w2.heap.size w2 w'/\(Mix.one L8 15=0->OwnE rowE (fun b=>w2.heap.size<=b) w' w2.heap.size 27 ov CP/\Below wr.heap.size wr w')/\wr.heap.size<=w'.heap.size:=⟨_,rfl⟩
   have krg:∀ i L w,i≠15 ->  AZ L w->AZ (L.setIfInBounds i true) w:=by
    intro i L w q15 h;rw [A6] at h ⊢;simp only [Mix.one_ne q15];exact h
   obtain ⟨BA,Bh⟩ : ∃ XX:Nat->World->World->Prop,XX=fun kk ww1 ww2=>if kk=15 then (fun x y=>Upd (fun b=>ov.ownBlock=some b) x y) ww1 ww2 else (fun x y=>Below x.heap.size x y) ww1 ww2:=⟨_,rfl⟩
   have xrg:∀ {k:Nat} (w:World),BA k w w:=by
    intro k w;rw [Bh];show if k=15 then _ else _
    split
    ·exact Upd.refl _ _
    ·exact Below.refl _ _
   have crg:AZ (Array.replicate 17 false) wr.drew:=by rw [A6];exact ⟨Bf.out.drew,fun _=>⟨HO.out,(Below.refl _ _).drew⟩,Nat.le_refl _⟩
   have brg:∀ L w w1,AZ L w->Below w.heap.size w w1->AZ L w1:=by
    intro L w w1 h hb;rw [A6] at h ⊢
    (obtain ⟨q1,q2,q3⟩:=h;exact ⟨q1.trans (hb.mono q1.size),fun e=>⟨(q2 e).1.below hb,(q2 e).2.trans (hb.mono (q2 e).2.size)⟩,Nat.le_trans q3 hb.size⟩)
   have xbrg:∀ {k:Nat} (w w1:World),Below w.heap.size w w1->BA k w w1:=by
    intro k w w1 hb;rw [Bh];show if k=15 then _ else _
    split
    ·exact Upd.ofBelow hb
    ·exact hb
   have Bv:=ab brg;have Bl:Hid (∀ {k:Nat} (w w1:World),Below w.heap.size w w1->BA k w w1):=@xbrg;clear brg xbrg;have Ko:=ab C7;clear C7;have Bd:=ab krg;have Bm:Hid (∀ {k:Nat} (w:World),BA k w w):=@xrg;have By:=ab crg;have AW:=ab A6;have Bi:=ab Bh;have A2:=ab erg0;have A3:=ab erg1;have A4:=ab erg2;have A5:=ab erg3;have Bc:=ab erg4;have A9:=ab erg5;have Ba:=ab erg6;have A1:=ab erg7;have A7:=ab erg8;have Be:=ab erg9;have A0:=ab erg10;have Bg:=ab erg11;have Bk:=ab erg12;have Bj:=ab erg13;have Bq:=ab erg14;have Bo:=ab erg15;have Bs:=ab erg16;clear krg xrg crg A6 Bh erg0 erg1 erg2 erg3 erg4 erg5 erg6 erg7 erg8 erg9 erg10 erg11 erg12 erg13 erg14 erg15 erg16
   go_wp2_with fail
   refine RegX.regionF Bw AZ BA ?_ (by kernel_rfl) (by kernel_rfl) (by kernel_rfl) By.out (fun GC AV=>?_)
   ·intro ii jj x w w1 E8 hr hx h;rw [Bi.out] at hx
    by_cases hi:ii=15
    ·subst hi;simp only [if_pos] at hx
     match jj with
     |0=>rw [A2.out] at h ⊢;exact h
     |1=>rw [A3.out] at h ⊢;(first | exact (HeldE.upd h hx (fun b hb e=>by have:=(BH.out b e).2;omega)) | (obtain ⟨g9,e9,h9⟩:=h;exact ⟨g9,e9,hx.keep.own h9 (fun b hb e=>by have:=(BH.out _ e).2;have:=(h9.lt _ hb).1;omega)⟩))
     |2=>rw [A4.out] at h ⊢;exact h
     |3=>rw [A5.out] at h ⊢;exact h
     |4=>rw [Bc.out] at h ⊢;exact h
     |5=>rw [A9.out] at h ⊢;exact h
     |6=>rw [Ba.out] at h ⊢;exact h
     |7=>rw [A1.out] at h ⊢;exact h
     |8=>rw [A7.out] at h ⊢;exact h
     |9=>rw [Be.out] at h ⊢;exact h
     |10=>rw [A0.out] at h ⊢;exact h
     |11=>rw [Bg.out] at h ⊢;exact h
     |12=>rw [Bk.out] at h ⊢;exact h
     |13=>rw [Bj.out] at h ⊢;(first | exact (HeldE.upd h hx (fun b hb e=>by have:=(BH.out b e).2;omega)) | (obtain ⟨g9,e9,h9⟩:=h;exact ⟨g9,e9,hx.keep.own h9 (fun b hb e=>by have:=(BH.out _ e).2;have:=(h9.lt _ hb).1;omega)⟩))
     |14=>rw [Bq.out] at h ⊢;(first | exact (HeldE.upd h hx (fun b hb e=>by have:=(BH.out b e).2;omega)) | (obtain ⟨g9,e9,h9⟩:=h;exact ⟨g9,e9,hx.keep.own h9 (fun b hb e=>by have:=(BH.out _ e).2;have:=(h9.lt _ hb).1;omega)⟩))
     |15=>exact absurd rfl E8
     |16=>exact absurd (hr.symm.trans (show Reg.reach _ 6 16 15=true from by kernel_rfl)) (by decide)
     |jj+17=>rw [Ko.out];trivial
    ·simp only [if_neg hi] at hx
     match jj with
     |0=>rw [A2.out] at h ⊢;exact h
     |1=>rw [A3.out] at h ⊢;(first | exact HeldE.below h hx | exact OwnE.below h hx | (obtain ⟨g9,e9,h9⟩:=h;exact ⟨g9,e9,aA h9 hx⟩))
     |2=>rw [A4.out] at h ⊢;exact h
     |3=>rw [A5.out] at h ⊢;exact h
     |4=>rw [Bc.out] at h ⊢;exact h
     |5=>rw [A9.out] at h ⊢;exact h
     |6=>rw [Ba.out] at h ⊢;exact h
     |7=>rw [A1.out] at h ⊢;exact h
     |8=>rw [A7.out] at h ⊢;exact h
     |9=>rw [Be.out] at h ⊢;exact h
     |10=>rw [A0.out] at h ⊢;exact h
     |11=>rw [Bg.out] at h ⊢;exact h
     |12=>rw [Bk.out] at h ⊢;exact h
     |13=>rw [Bj.out] at h ⊢;(first | exact HeldE.below h hx | exact OwnE.below h hx | (obtain ⟨g9,e9,h9⟩:=h;exact ⟨g9,e9,aA h9 hx⟩))
     |14=>rw [Bq.out] at h ⊢;(first | exact HeldE.below h hx | exact OwnE.below h hx | (obtain ⟨g9,e9,h9⟩:=h;exact ⟨g9,e9,aA h9 hx⟩))
     |15=>rw [Bo.out] at h ⊢;(first | exact HeldE.below h hx | exact OwnE.below h hx | (obtain ⟨g9,e9,h9⟩:=h;exact ⟨g9,e9,aA h9 hx⟩))
     |16=>rw [Bs.out] at h ⊢;(first | exact HeldE.below h hx | exact OwnE.below h hx | (obtain ⟨g9,e9,h9⟩:=h;exact ⟨g9,e9,aA h9 hx⟩))
     |jj+17=>rw [Ko.out];trivial
   simp only [Reg.frame,Reg.dsts,List.map_cons,List.map_nil,Mix.put_lit,List.set_cons_succ,List.set_cons_zero,Nat.zero_add,Nat.reduceAdd] at AV;refine ⟨?_,?_⟩
   ·refine ⟨?_,?_,?_,?_,?_,?_,?_,?_,?_,?_,?_,?_,?_,?_,?_,?_,?_,trivial⟩
    ·intro Lq wq xq hh;have d16:=hh.old 16 (by kernel_rfl);simp only [AV,d16];clear d16;refine .inl ⟨rfl,?_⟩;unfold Reg.upon;have hk:=Bd.out 0 Lq wq (by decide)  hh.cls;have hx:BA 0 wq wq:=Bm.out wq;have he:Bw 0 (ov) wq:=by rw [A2.out]
     have HK:=ab (And.intro hk (And.intro he hx));clear hk hx he;go_simp;exact HK.out
    ·intro Lq wq xq hh;simp only [AV];refine .inl ⟨rfl,?_⟩;unfold Reg.upon;go_simp;have hc:AZ Lq wq:=hh.cls;rw [AW.out] at hc;have hb1:=AU wq (.cells #[] 21);refine ⟨Bd.out 1 Lq _ (by decide) (Bv.out Lq wq _ hh.cls hb1),?_,Bl.out wq _ hb1⟩;rw [A3.out];exact ⟨_,rfl,World.ownsRow_lit wq #[] 0 hc.2.2 (by decide) rfl⟩
    ·intro Lq wq xq hh;simp only [AV];refine .inl ⟨rfl,?_⟩;unfold Reg.upon;have hk:=Bd.out 2 Lq wq (by decide)  hh.cls;have hx:BA 2 wq wq:=Bm.out wq;have he:Bw 2 (.slice (some ⟨bx,ox,none⟩) n ca) wq:=by rw [A4.out]
     have HK:=ab (And.intro hk (And.intro he hx));clear hk hx he;go_simp;exact HK.out
    ·intro Lq wq xq hh;simp only [AV];refine .inl ⟨rfl,?_⟩;unfold Reg.upon;have hk:=Bd.out 3 Lq wq (by decide)  hh.cls;have hx:BA 3 wq wq:=Bm.out wq;have he:Bw 3 (.slice (some ⟨ba,oa,none⟩) (m+1) cc) wq:=by rw [A5.out]
     have HK:=ab (And.intro hk (And.intro he hx));clear hk hx he;go_simp;exact HK.out
    ·intro Lq wq xq hh;simp only [AV];refine .inl ⟨rfl,?_⟩;unfold Reg.upon;have hk:=Bd.out 4 Lq wq (by decide)  hh.cls;have hx:BA 4 wq wq:=Bm.out wq;have he:Bw 4 (.int .i64 (k:Int)) wq:=by rw [Bc.out]
     have HK:=ab (And.intro hk (And.intro he hx));clear hk hx he;go_simp;exact HK.out
    ·intro Lq wq xq hh;have d3:Bw 3 (xq 3) wq:=hh.val 3 (by kernel_rfl) (by kernel_rfl);rw [A5.out] at d3;have d4:Bw 4 (xq 4) wq:=hh.val 4 (by kernel_rfl) (by kernel_rfl);rw [Bc.out] at d4;simp only [AV,d3,d4];clear d3 d4;refine .inl ⟨rfl,?_⟩;unfold Reg.upon;have hk:=Bd.out 5 Lq wq (by decide)  hh.cls;have hx:BA 5 wq wq:=Bm.out wq;have he:Bw 5 (.pointer (some ⟨ba,oa+k,none⟩)) wq:=by rw [A9.out]
     have HK:=ab (And.intro hk (And.intro he hx));clear hk hx he;go_simp;exact HK.out
    ·intro Lq wq xq hh;have d5:Bw 5 (xq 5) wq:=hh.val 5 (by kernel_rfl) (by kernel_rfl);rw [A9.out] at d5;simp only [AV,d5];clear d5;refine .inl ⟨rfl,?_⟩;unfold Reg.upon;have hc:AZ Lq wq:=hh.cls;rw [AW.out] at hc;have q1:=((hc.2.1 (Mix.one_un (hh.notYet 15 (by kernel_rfl)))).2.cell (p:=⟨ba,oa+k,none⟩) Ga.out).trans LI.out;clear hc;have hk:=Bd.out 6 Lq wq (by decide)  hh.cls;have hx:BA 6 wq wq:=Bm.out wq;have he:Bw 6 (.int .i64 (a:Int)) wq:=by rw [Ba.out]
     have HK:=ab (And.intro hk (And.intro he hx));clear hk hx he;go_simp;exact HK.out
    ·intro Lq wq xq hh;simp only [AV];refine .inl ⟨rfl,?_⟩;unfold Reg.upon;have hk:=Bd.out 7 Lq wq (by decide)  hh.cls;have hx:BA 7 wq wq:=Bm.out wq;have he:Bw 7 (.slice (some ⟨ba,oa,none⟩) (m+1) cc) wq:=by rw [A1.out]
     have HK:=ab (And.intro hk (And.intro he hx));clear hk hx he;go_simp;exact HK.out
    ·intro Lq wq xq hh;simp only [AV];refine .inl ⟨rfl,?_⟩;unfold Reg.upon;have hk:=Bd.out 8 Lq wq (by decide)  hh.cls;have hx:BA 8 wq wq:=Bm.out wq;have he:Bw 8 (.int .i64 (k:Int)) wq:=by rw [A7.out]
     have HK:=ab (And.intro hk (And.intro he hx));clear hk hx he;go_simp;exact HK.out
    ·intro Lq wq xq hh;have d8:Bw 8 (xq 8) wq:=hh.val 8 (by kernel_rfl) (by kernel_rfl);rw [A7.out] at d8;simp only [AV,d8];clear d8;refine .inl ⟨rfl,?_⟩;unfold Reg.upon;go_simp
     try rw [Kt]
     exact ⟨Bd.out 9 Lq wq (by decide) hh.cls,(by rw [Be.out]),Bm.out _⟩
    ·intro Lq wq xq hh;have d7:Bw 7 (xq 7) wq:=hh.val 7 (by kernel_rfl) (by kernel_rfl);rw [A1.out] at d7;have d9:Bw 9 (xq 9) wq:=hh.val 9 (by kernel_rfl) (by kernel_rfl);rw [Be.out] at d9;simp only [AV,d7,d9];clear d7 d9;refine .inl ⟨rfl,?_⟩;unfold Reg.upon;have hk:=Bd.out 10 Lq wq (by decide)  hh.cls;have hx:BA 10 wq wq:=Bm.out wq;have he:Bw 10 (.pointer (some ⟨ba,oa+(k+1),none⟩)) wq:=by rw [A0.out]
     have HK:=ab (And.intro hk (And.intro he hx));clear hk hx he;go_simp;exact HK.out
    ·intro Lq wq xq hh;have d10:Bw 10 (xq 10) wq:=hh.val 10 (by kernel_rfl) (by kernel_rfl);rw [A0.out] at d10;simp only [AV,d10];clear d10;refine .inl ⟨rfl,?_⟩;unfold Reg.upon;have hc:AZ Lq wq:=hh.cls;rw [AW.out] at hc;have q2:=((hc.2.1 (Mix.one_un (hh.notYet 15 (by kernel_rfl)))).2.cell (p:=⟨ba,oa+(k+1),none⟩) Ga.out).trans Oz.out;clear hc;have hk:=Bd.out 11 Lq wq (by decide)  hh.cls;have hx:BA 11 wq wq:=Bm.out wq;have he:Bw 11 (.int .i64 (b:Int)) wq:=by rw [Bg.out]
     have HK:=ab (And.intro hk (And.intro he hx));clear hk hx he;go_simp;exact HK.out
    ·intro Lq wq xq hh;have d2:Bw 2 (xq 2) wq:=hh.val 2 (by kernel_rfl) (by kernel_rfl);rw [A4.out] at d2;have d6:Bw 6 (xq 6) wq:=hh.val 6 (by kernel_rfl) (by kernel_rfl);rw [Ba.out] at d6;have d11:Bw 11 (xq 11) wq:=hh.val 11 (by kernel_rfl) (by kernel_rfl);rw [Bg.out] at d11;simp only [AV,d2,d6,d11];clear d2 d6 d11;refine .inl ⟨rfl,?_⟩;unfold Reg.upon;have hk:=Bd.out 12 Lq wq (by decide)  hh.cls;have hx:BA 12 wq wq:=Bm.out wq;have he:Bw 12 (.slice (some ⟨bx,ox+a,none⟩) (b - a) (ca - a)) wq:=by rw [Bk.out]
     have HK:=ab (And.intro hk (And.intro he hx));clear hk hx he;go_simp;exact HK.out
    ·intro Lq wq xq hh;have d1:Bw 1 (xq 1) wq:=hh.val 1 (by kernel_rfl) (by kernel_rfl);rw [A3.out] at d1;have d12:Bw 12 (xq 12) wq:=hh.val 12 (by kernel_rfl) (by kernel_rfl);rw [Bk.out] at d12;simp only [AV,d12];clear d12;refine .inl ⟨rfl,?_⟩;unfold Reg.upon;obtain ⟨g9,e9,h9⟩:=d1;have hc:AZ Lq wq:=hh.cls;rw [AW.out] at hc;have hw:=KO.out.trans ((hc.2.1 (Mix.one_un (hh.notYet 15 (by kernel_rfl)))).2.mono KO.out.size);rw [e9];obtain ⟨v',w',hr,h2,hb1⟩:=ue wq _ 27 g9 h9 _ (bw xs (a,b)) (HSLI.out wq hw) HSLN.out.2 HSLN.out.1 hc.2.2;rw [lw rfl rfl rfl hr];refine ⟨Bd.out 13 Lq _ (by decide) (Bv.out Lq wq _ hh.cls hb1),?_,Bl.out wq _ hb1⟩;rw [Bj.out];exact (dM (Z:=fun b=>wr.heap.size<=b) h2).held (fun b h _=>h)
    ·intro Lq wq xq hh;have d13:Bw 13 (xq 13) wq:=hh.val 13 (by kernel_rfl) (by kernel_rfl);rw [Bj.out] at d13;simp only [AV];refine .inl ⟨rfl,?_⟩;unfold Reg.upon;have hc:AZ Lq wq:=hh.cls;rw [AW.out] at hc;obtain ⟨a3,c3,e3⟩:=d13.len;have hb:=AU wq (.cells [xq 13].toArray 27);have Dl:HeldE rowE (fun b=>wr.heap.size<=b) (wq.alloc (.cells [xq 13].toArray 27)) (.slice (some ⟨wq.heap.size,0,none⟩) 1 1) [bw xs (a,b)]:=aT (Y:=fun b=>wr.heap.size<=b) [xq 13] _ ⟨_,rfl,d13⟩ (fun b _ h=>h) hc.2.2;rw [e3] at hb Dl ⊢;go_simp;refine ⟨Bd.out 14 Lq _ (by decide) (Bv.out Lq wq _ hh.cls hb),?_,Bl.out wq _ hb⟩;rw [Bq.out];exact Dl
    ·intro Lq wq xq hh;have d0:Bw 0 (xq 0) wq:=hh.val 0 (by kernel_rfl) (by kernel_rfl);rw [A2.out] at d0;have d14:Bw 14 (xq 14) wq:=hh.val 14 (by kernel_rfl) (by kernel_rfl);rw [Bq.out] at d14;simp only [AV,d0];clear d0;refine .inl ⟨rfl,?_⟩;unfold Reg.upon;have hc:AZ Lq wq:=hh.cls;rw [AW.out] at hc;have hc4:=hc.2.1 hh.un;obtain ⟨v',w',hr,h1,h2,h3,h4⟩:=je (P:=Tryz.prog) (E:=rowE) (Z:=fun b=>w2.heap.size<=b) (w:=wq) (B:=w2.heap.size) (ty:=27) 159 _ (.slice none 0 0) 24 Tryz.underlying159 yU rfl (by decide) hc4.1 (d14.zoned (Y:=fun b=>w2.heap.size<=b/\ov.ownBlock≠some b) (fun b _ hz=>⟨Nat.le_trans IG.out hz,fun e=>by have:=(BH.out b e).2;omega⟩)) (by simp only [List.length_singleton];have:=Jb.out;omega) (by simp only [List.length_singleton];have:=Jb.out;omega) (Nat.le_trans IG.out hc.2.2);rw [lw rfl rfl rfl hr];have hu:Upd (fun b=>ov.ownBlock=some b) wq w':=⟨h2.os,h2.tape,h2.output,h3.size,fun b hb hn=>h3.block b hb hn⟩;refine ⟨?_,?_,?_⟩
     ·rw [AW.out];refine ⟨hc.1.trans h2,fun e=>?_,Nat.le_trans hc.2.2 h2.size⟩;rw [Mix.one_set (by rw [hh.size];decide)] at e;exact absurd e (by decide)
     ·rw [Bo.out];exact h1
     ·rw [Bi.out];exact hu
    ·intro Lq wq xq hh;have d15:Bw 15 (xq 15) wq:=hh.val 15 (by kernel_rfl) (by kernel_rfl);rw [Bo.out] at d15;simp only [AV];refine .inl ⟨rfl,?_⟩;unfold Reg.upon;go_simp;exact ⟨Bd.out 16 Lq wq (by decide) hh.cls,(by rw [Bs.out];exact d15),Bm.out _⟩
   intro xq DY Bp BD;rw [AW.out] at Bp;simp only [AV];have vrg16:Bw 16 (xq 16) DY:=BD 16 (by decide);rw [Bs.out] at vrg16;clear BD AV Bd Bm Ko By AW Bi Bv Bl A2 A3 A4 A5 Bc A9 Ba A1 A7 Be A0 Bg Bk Bj Bq Bo Bs;have HF:=ab (show OwnE rowE (fun b=>w2.heap.size<=b) DY w2.heap.size 27 (xq 16) ((bJ xs).take (k+1)) from by rw [J8.out];exact vrg16);have HB:=ab Bp.1;clear Bp vrg16;go_wp2
   go_roundw
   case rel=>exact ⟨k+1,by omega,by go_num,HF.out,HB.out⟩
   case measure=>simp [intOf] <;> omega
  ·obtain rfl:k=m:=by omega
   have HF:=ab (show sy w (bJ xs) (.returned ov) wr from by
    have h:=HO.out;rw [List.take_of_length_le (by rw [Jp.out,<-HM.out];exact Nat.le_refl _)] at h;exact ⟨ov,rfl,(h.base BY.out.size).keep (Y:=fun b=>w.heap.size<=b) (.refl _ _) (fun b _ hz=>Nat.le_trans BY.out.size hz),BY.out.trans (Bf.out.mono BY.out.size)⟩)
   go_wp2;go_ret;exact HF.out
def lu(A B:List (Int × Int)):Bool:=A.all fun p=>B.all fun q=>decide (p.2<q.1) || decide (q.2<p.1)
theorem ij{A B:List (Int × Int)}(h:lu A B=true){r:Int}(ha:aM A r=true):aM B r=false:=by
 cases hb:aM B r with
 |false=>rfl
 |true =>
  obtain ⟨p,hp,h1⟩:=List.any_eq_true.1 ha;obtain ⟨q,hq,h2⟩:=List.any_eq_true.1 hb;have h3:=List.all_eq_true.1 (List.all_eq_true.1 h p hp) q hq
  simp at h1 h2 h3
  omega
theorem tA:lu tControl tPict=true:=by decide +kernel
theorem tB:lu tControl tCons=true:=by decide +kernel
theorem tC:lu tControl tLink=true:=by decide +kernel
theorem tD:lu tControl tJoin=true:=by decide +kernel
theorem iL(r:Int):bi r=0\/9<=bi r:=by
 unfold bi
 repeat' split
 all_goals omega
theorem iM{r:Int}(h:1<=bQ r/\bQ r<=3):aM tPict r=false/\dy r=0:=by
 have hc:r=13\/r=10\/aM tControl r=true:=by
  by_cases h1:r=13
  ·exact .inl h1
  by_cases h2:r=10
  ·exact .inr (.inl h2)
  right;right
  cases hi:aM tControl r with
  |true=>rfl
  |false =>
   exfalso;unfold bQ bm at h;rw [if_neg h1,if_neg h2,hi] at h;simp only [Bool.false_eq_true,if_false] at h;have DU:=iL r
   repeat' split at h
   all_goals omega
 rcases hc with rfl | rfl | hc
 ·exact ⟨by decide +kernel,by decide +kernel⟩
 ·exact ⟨by decide +kernel,by decide +kernel⟩
 ·refine ⟨ij tA hc,?_⟩;unfold dy;rw [ij tB hc,ij tC hc,ij tD hc]
  rfl
theorem jW{xs ys:List Pr}:∀ k,(∀ i,i<k->xs.getD i Pr.none=ys.getD i Pr.none)->cSt xs k=cSt ys k/\pSt xs k=pSt ys k/\oSt xs k=oSt ys k/\lSt xs k=lSt ys k
 |0,_=>⟨rfl,rfl,rfl,rfl⟩
 |k+1,h=>by
  obtain ⟨h1,h2,h3,_⟩:=jW k fun i hi=>h i (by omega)
  have h5:=h k (by omega);simp only [cSt,pSt,oSt,lSt];rw [h1,h2,h3,h5];exact ⟨rfl,rfl,rfl,rfl⟩
theorem vU{xs ys:List Pr}(k:Nat)(h:∀ i,i<k+1->xs.getD i Pr.none=ys.getD i Pr.none):jR xs k=jR ys k:=by
 obtain ⟨h1,h2,h3,h4⟩:=jW k fun i hi=>h i (by omega)
 rw [lH,lH,h1,h2,h3,h4,h k (by omega)]
theorem gl(a b:List Int)(i:Nat)(h:i<a.length):(aq (a++b)).getD i Pr.none=(aq a).getD i Pr.none:=by
 unfold aq;rw [List.map_append]
 simp [List.getD,List.getElem?_append_left (show i<(a.map bh).length by simpa using h)]
theorem pb(a b:List Int)(i:Nat):(aq (a++b)).getD (a.length+i) Pr.none=(aq b).getD i Pr.none:=by
 unfold aq;rw [List.map_append,List.getD,List.getElem?_append_right (by simp)]
 simp [List.getD]
section
theorem gP{r:Int}(h:bT r=true):1<=bQ r/\bQ r<=3:=by
 have hk:∀ n:Fin 160,bT ((n.1:Nat):Int)=true->1<=bQ ((n.1:Nat):Int)/\bQ ((n.1:Nat):Int)<=3:=by decide +kernel
 have hr:0<=r/\r<160:=by
  unfold bT at h
  simp at h
  omega
 have:=hk ⟨r.toNat,by omega⟩;simp only [Int.toNat_of_nonneg hr.1] at this;exact this h
theorem mI(r:Int):bm r≠1/\bm r≠2:=by
 unfold bm
 repeat' split
 all_goals omega
theorem yS{r:Int}(h:bT r=false):bQ r≠1/\bQ r≠2:=by
 have h1:r≠13:=by rintro rfl;exact absurd h (by decide)
 have h2:r≠10:=by rintro rfl;exact absurd h (by decide)
 have hl:=mI r;have hc:=iL r;unfold bQ;rw [if_neg h1,if_neg h2]
 repeat' split
 all_goals omega
theorem tx{a b:Int}(h:1<=a/\a<=3):cq a b=(if a=1/\clI b=2 then 1 else 0):=by
 unfold cq;have ha:clI a=a:=by unfold clI;split <;> omega
 rw [ha];unfold cH
 by_cases e:a=1/\clI b=2
 ·rw [if_pos e,if_pos e]
 ·have hb:brB a=true:=by unfold brB;simp;omega
  rw [if_neg e,if_neg e,if_pos (.inl hb)]
theorem fc(xs:List Int):xs=[]\/∃ ys r,xs=ys++[r]:=by
 rcases List.eq_nil_or_concat xs with h | ⟨ys,r,h⟩
 ·exact .inl h
 ·exact .inr ⟨ys,r,by rw [h,List.concat_eq_append]⟩
theorem cl_two{b:Int}:clI b=2↔b=2:=by unfold clI;split <;> omega
section
variable {α : Type}
theorem kp(T S:List α)(p:Nat × Nat)(h1:p.1<=p.2)(h2:p.2<=T.length):bw (T++S) p=bw T p:=by
 unfold bw;rw [List.drop_append_of_le_length (by omega),List.take_append_of_le_length (by rw [List.length_drop];omega)]
theorem rb(T:List α)(x:α)(a:Nat)(h:a<=T.length):bw (T++[x]) (a,T.length+1)=bw T (a,T.length)++[x]:=by
 unfold bw;rw [List.drop_append_of_le_length h,List.take_of_length_le (by rw [List.length_append,List.length_drop,List.length_singleton];simp only;omega),List.take_of_length_le (by rw [List.length_drop];exact Nat.le_refl _)]
end
def dx(xs:List Int):List (List Int):=(eh (jR (aq xs)) xs.length).map (bw xs)
def aY(xs:List Int):List Int:=bw xs (eM (jR (aq xs)) xs.length,xs.length)
theorem vR:bJ []=[]:=rfl
theorem kQ{xs:List Int}(h:xs≠[]):bJ xs=dx xs++[aY xs]:=by
 have hn:xs.length≠0:=fun e=>h (List.length_eq_zero_iff.1 e)
 unfold bJ clS fe dx aY;rw [if_neg hn,List.map_append]
 rfl
def dL(xs:List Int)(r:Int):Bool:=jR (aq (xs++[r])) xs.length
theorem jU(r:Int):dL [] r=false:=kS _
theorem mJ(xs:List Int)(r:Int):eh (jR (aq (xs++[r]))) xs.length=eh (jR (aq xs)) xs.length/\eM (jR (aq (xs++[r]))) xs.length=eM (jR (aq xs)) xs.length :=
 kq _ _ _ fun i hi=>vU i fun k hk=>gl xs [r] k (by omega)
theorem mK(xs:List Int)(r:Int):(eh (jR (aq xs)) xs.length).map (bw (xs++[r]))=dx xs:=by
 unfold dx
 apply List.map_congr_left
 intro p hp;have:=jh _ _ p hp;exact kp _ _ _ (by omega) (by omega)
theorem ig{xs:List Int}{r:Int}(h:dL xs r=true):dx (xs++[r])=dx xs/\aY (xs++[r])=aY xs++[r]:=by
 obtain ⟨h1,h2⟩:=mJ xs r;have hl:(xs++[r]).length=xs.length+1:=by simp
 constructor
 ·rw [<-mK xs r]
  conv=>lhs;unfold dx
  rw [hl,eq,if_pos (.inl h),h1]
 ·conv=>lhs;unfold aY
  rw [hl,ep,if_pos (.inl h),h2,rb _ _ _ (ph _ _)]
  rfl
theorem fQ{xs:List Int}{r:Int}(h:dL xs r=false):dx (xs++[r])=bJ xs/\aY (xs++[r])=[r]:=by
 obtain ⟨h1,h2⟩:=mJ xs r;have hl:(xs++[r]).length=xs.length+1:=by simp
 have hj:¬ jR (aq (xs++[r])) xs.length=true:=by
  have h:jR (aq (xs++[r])) xs.length=false:=h;rw [h];decide
 by_cases h0:xs=[]
 ·subst h0;exact ⟨rfl,rfl⟩
 ·have hn:xs.length≠0:=fun e=>h0 (List.length_eq_zero_iff.1 e)
  have hno:¬ (jR (aq (xs++[r])) xs.length=true\/xs.length=0):=fun e=>e.elim hj hn
  constructor
  ·conv=>lhs;unfold dx
   rw [hl,eq,if_neg hno,List.map_append,h1,mK,h2,kQ h0]
   congr 1
   show [bw (xs++[r]) (eM (jR (aq xs)) xs.length,xs.length)]=[aY xs];rw [kp _ _ _ (ph _ _) (Nat.le_refl _)]
   rfl
  ·conv=>lhs;unfold aY
   rw [hl,ep,if_neg hno];unfold bw
   simp
theorem sx(xs:List Int)(r:Int):xs++[r]≠[]:=by simp
def cm(xs:List Int):Bool:=match xs.getLast? with | none=>false | some r=>!bT r
theorem cV(xs:List Int)(r:Int):cm (xs++[r]) = !bT r:=by unfold cm;rw [List.getLast?_concat]
def o0(xs:List Int):Bool:=cm xs
def pa(xs:List Int):Int:=if cm xs=true then lSt (aq xs) xs.length else 0
def kK(xs:List Int):Int:=if cm xs=true then cSt (aq xs) xs.length else 0
def kL(xs:List Int):Int:=if cm xs=true then pSt (aq xs) xs.length else 0
def mv(xs:List Int):Bool:=if cm xs=true then oSt (aq xs) xs.length else false
theorem ja(xs:List Int)(r:Int):cSt (aq (xs++[r])) xs.length=cSt (aq xs) xs.length/\pSt (aq (xs++[r])) xs.length=pSt (aq xs) xs.length/\oSt (aq (xs++[r])) xs.length=oSt (aq xs) xs.length/\lSt (aq (xs++[r])) xs.length=lSt (aq xs) xs.length :=
 jW xs.length fun i hi=>gl xs [r] i hi
theorem eV(xs:List Int)(r:Int):(aq (xs++[r])).getD xs.length Pr.none=bh r:=by
 have:=pb xs [r] 0;rw [Nat.add_zero] at this;rw [this]
 rfl
theorem jc(xs:List Int)(r:Int):cSt (aq (xs++[r])) (xs++[r]).length=dn (cSt (aq xs) xs.length) (dy r)/\pSt (aq (xs++[r])) (xs++[r]).length=eB (pSt (aq xs) xs.length) (bQ r) (aM tPict r)/\oSt (aq (xs++[r])) (xs++[r]).length=(bQ r == 6 && !oSt (aq xs) xs.length)/\lSt (aq (xs++[r])) (xs++[r]).length=bQ r:=by
 obtain ⟨h1,h2,h3,h4⟩:=ja xs r;have hl:(xs++[r]).length=xs.length+1:=by simp
 rw [hl];simp only [cSt,pSt,oSt,lSt];rw [h1,h2,h3,eV];exact ⟨rfl,rfl,rfl,rfl⟩
theorem mL{xs:List Int}(h:cm xs=false):cSt (aq xs) xs.length=0/\pSt (aq xs) xs.length=0/\oSt (aq xs) xs.length=false:=by
 rcases fc xs with rfl | ⟨ys,r,rfl⟩
 ·exact ⟨rfl,rfl,rfl⟩
 ·rw [cV] at h;have hs:bT r=true:=by simpa using h
  have hc:=gP hs;obtain ⟨p1,p2⟩:=iM hc;obtain ⟨h1,h2,h3,_⟩:=jc ys r;rw [h1,h2,h3,p1,p2];refine ⟨by unfold dn;simp,?_,?_⟩
  ·unfold eB;generalize pSt (aq ys) ys.length=s;rw [if_neg (by decide)]
   by_cases e:s≠1
   ·rw [if_pos e]
   ·rw [if_neg e,if_neg (by omega),if_neg (by omega)]
  ·have:(bQ r == 6)=false:=by simp;omega
   rw [this];rfl
theorem kR(xs:List Int):kK xs=cSt (aq xs) xs.length/\kL xs=pSt (aq xs) xs.length/\mv xs=oSt (aq xs) xs.length:=by
 unfold kK kL mv
 cases h:cm xs with
 |true=>exact ⟨rfl,rfl,rfl⟩
 |false =>
  obtain ⟨h1,h2,h3⟩:=mL h;rw [h1,h2,h3];exact ⟨rfl,rfl,rfl⟩
theorem jV{xs:List Int}{r:Int}(hr:bT r=false)(ho:cm xs=false):dL xs r=false:=by
 rcases fc xs with rfl | ⟨ys,q,rfl⟩
 ·exact jU r
 ·have hq:bT q=true:=by rw [cV] at ho;simpa using ho
  obtain ⟨h1,h2,h3⟩:=mL ho;obtain ⟨k1,k2,k3,k4⟩:=ja (ys++[q]) r;unfold dL;rw [lH,k1,k2,k3,k4,h1,h2,h3,eV,(jc ys q).2.2.2];have hj:cq (bQ q) (bQ r)≠1:=by
   rw [tx (gP hq)];have:=(yS hr).2;rw [if_neg (fun e=>this (cl_two.1 e.2))]
   decide
  unfold cC bh
  simp [hj]
theorem tz{xs:List Int}{r:Int}(hr:bT r=false):cC (o0 xs) (pa xs) (kK xs) (kL xs) (mv xs) (bQ r) (aM tPict r) (dy r)=dL xs r:=by
 cases ho:cm xs with
 |false =>
  rw [jV hr ho];unfold cC o0;rw [ho,if_pos rfl]
 |true =>
  have hn:0<xs.length:=by
   cases xs with
   | nil=>cases ho
   | cons=>simp
  obtain ⟨k1,k2,k3,k4⟩:=ja xs r;obtain ⟨v1,v2,v3⟩:=kR xs;unfold dL;rw [lH,k1,k2,k3,k4,eV,v1,v2,v3,decide_eq_true hn];unfold o0 pa;rw [ho,if_pos rfl]
  rfl
theorem vS{xs:List Int}{r:Int}(hr:bT r=false):o0 (xs++[r])=true/\pa (xs++[r])=bQ r/\kK (xs++[r])=dn (kK xs) (dy r)/\kL (xs++[r])=eB (kL xs) (bQ r) (aM tPict r)/\mv (xs++[r])=(bQ r == 6 && !mv xs):=by
 have ho:cm (xs++[r])=true:=by rw [cV,hr];rfl
 obtain ⟨h1,h2,h3,h4⟩:=jc xs r;obtain ⟨v1,v2,v3⟩:=kR xs;obtain ⟨u1,u2,u3⟩:=kR (xs++[r]);refine ⟨ho,?_,?_,?_,?_⟩
 ·unfold pa;rw [if_pos ho,h4]
 ·rw [u1,h1,v1]
 ·rw [u2,h2,v2]
 ·rw [u3,h3,v3]
theorem yT{xs:List Int}{r:Int}(hr:bT r=true):o0 (xs++[r])=false/\pa (xs++[r])=0/\kK (xs++[r])=0/\kL (xs++[r])=0/\mv (xs++[r])=false:=by
 have ho:cm (xs++[r])=false:=by rw [cV,hr];rfl
 unfold o0 pa kK kL mv;rw [ho];exact ⟨rfl,rfl,rfl,rfl,rfl⟩
theorem zY(xs:List Int):0<=kK xs/\kK xs<=255/\0<=kL xs/\kL xs<=255:=by
 obtain ⟨v1,v2,_⟩:=kR xs;have h1:=wE (aq xs) xs.length;have h2:=wF (aq xs) xs.length;rw [v1,v2];omega
theorem mM:∀ (n:Nat) (xs:List Int),xs.length=n->cm xs=true->bT ((aY xs).getD 0 0)=false/\aY xs≠[]:=by
 intro n
 induction n with
 |zero =>
  intro xs hn ho;rw [List.length_eq_zero_iff.1 hn] at ho
  cases ho
 |succ n ih =>
  intro xs hn ho
  rcases fc xs with rfl | ⟨ys,r,rfl⟩
  ·cases ho
  ·have hr:bT r=false:=by rw [cV] at ho;simpa using ho
   cases hj:dL ys r with
   |false =>
    rw [(fQ hj).2];exact ⟨hr,by simp⟩
   |true =>
    have hy:cm ys=true:=by
     cases h:cm ys with
     | true=>rfl
     | false=>rw [jV hr h] at hj;cases hj
    obtain ⟨h1,h2⟩:=ih ys (by simp at hn;exact hn) hy;rw [(ig hj).2];refine ⟨?_,by simp⟩;obtain ⟨a,t,e⟩:=List.exists_cons_of_ne_nil h2;rw [e] at h1 ⊢;exact h1
theorem vT{xs:List Int}{r:Int}(hr:bT r=true)(hj:dL xs r=true):aY xs=[13]/\cm xs=false/\xs≠[]:=by
 rcases fc xs with rfl | ⟨ys,q,rfl⟩
 ·rw [jU] at hj;cases hj
 ·obtain ⟨k1,k2,k3,k4⟩:=ja (ys++[q]) r;obtain ⟨p1,p2⟩:=iM (gP hr);have hc:=gP hr;have hj0:=hj;unfold dL at hj;rw [lH,k1,k2,k3,k4,eV,(jc ys q).2.2.2] at hj;have h1:cq (bQ q) (bQ r)=1:=by
   unfold cC bh at hj;have h6:(bQ r == 6)=false:=by simp;omega
   simp only [p1,p2,h6] at hj
   by_cases e:cq (bQ q) (bQ r)=1
   ·exact e
   ·simp [e] at hj
  have hq:bQ q=1:=by
   unfold cq cH at h1;have hr3:clI (bQ r)=bQ r:=by unfold clI;split <;> omega
   have hb:brB (clI (bQ r))=true:=by rw [hr3];unfold brB;simp;omega
   by_cases e:clI (bQ q)=1/\clI (bQ r)=2
   ·have:=e.1;unfold clI at this;split at this <;> omega
   ·rw [if_neg e,if_pos (.inr hb)] at h1
    cases h1
  have hq13:q=13:=by
   by_cases e:q=13
   ·exact e
   ·exfalso;have hl:=mI q;have DU:=iL q;unfold bQ at hq;rw [if_neg e] at hq
    repeat' split at hq
    all_goals omega
  subst hq13;have hs:bT 13=true:=by decide
  refine ⟨?_,by rw [cV,hs];rfl,sx _ _⟩;have hn:dL ys 13=false:=by
   cases hjy:dL ys 13 with
   |false=>rfl
   |true =>
    exfalso
    rcases fc ys with rfl | ⟨zs,q2,rfl⟩
    ·rw [jU] at hjy;cases hjy
    ·obtain ⟨k1,k2,k3,k4⟩:=ja (zs++[q2]) 13;obtain ⟨p1,p2⟩:=iM (gP hs);unfold dL at hjy;rw [lH,k1,k2,k3,k4,eV,(jc zs q2).2.2.2] at hjy;have h1:cq (bQ q2) (bQ 13)=1:=by
      unfold cC bh at hjy;have h6:(bQ 13 == 6)=false:=by decide
      simp only [p1,p2,h6] at hjy
      by_cases e:cq (bQ q2) (bQ 13)=1
      ·exact e
      ·simp [e] at hjy
     have EW:bQ 13=1:=rfl;rw [EW] at h1;unfold cq cH at h1;have e1:clI 1=1:=by decide
     rw [e1] at h1;rw [if_neg (fun e=>absurd e.2 (by decide)),if_pos (.inr (by decide))] at h1
     cases h1
  exact (fQ hn).2
end
def zeroL:List Int:=[1,2,3,4,5,10,11]
theorem AR(w:World)(br:Int)(b:Bool)(cv ea:Int):∃ W,W=(w.alloc (.cells #[.int .i64 br,.bool b,.int .i64 cv,.int .i64 ea] 33)).alloc (.cells #[.int .i64 1,.int .i64 2,.int .i64 3,.int .i64 4,.int .i64 5,.int .i64 10,.int .i64 11] 3) /\
  Has W w.heap.size [.int .i64 br,.bool b,.int .i64 cv,.int .i64 ea] 33/\Has W (w.heap.size+1) (zeroL.map (Value.int .i64)) 3/\Below w.heap.size w W:=by
 refine ⟨_,rfl,(Has.new w _ _).alloc _,?_,(AU _ _).alloc (by simp) _⟩;have:=Has.new (w.alloc (.cells #[.int .i64 br,.bool b,.int .i64 cv,.int .i64 ea] 33)) (zeroL.map (Value.int .i64)) 3;rw [World.size_alloc] at this;exact this
theorem qp(br:Int):(br=1\/br=2\/br=3\/br=4\/br=5\/br=10\/br=11)↔∃ j,j<7/\br=zeroL.getD j 0:=by
 constructor
 ·rintro (h | h | h | h | h | h | h)
  ·exact ⟨0,by decide,h⟩
  ·exact ⟨1,by decide,h⟩
  ·exact ⟨2,by decide,h⟩
  ·exact ⟨3,by decide,h⟩
  ·exact ⟨4,by decide,h⟩
  ·exact ⟨5,by decide,h⟩
  ·exact ⟨6,by decide,h⟩
 ·rintro ⟨j,hj,h⟩
  match j,hj with
  | 0,_=>exact .inl h
  | 1,_=>exact .inr (.inl h)
  | 2,_=>exact .inr (.inr (.inl h))
  | 3,_=>exact .inr (.inr (.inr (.inl h)))
  | 4,_=>exact .inr (.inr (.inr (.inr (.inl h))))
  | 5,_=>exact .inr (.inr (.inr (.inr (.inr (.inl h)))))
  | 6,_=>exact .inr (.inr (.inr (.inr (.inr (.inr h)))))
theorem yg{br ea:Int}{j:Nat}(hj:j<7)(h:br=zeroL.getD j 0):bA br ea=0:=by
 unfold bA;rw [if_pos ((qp br).2 ⟨j,hj,h⟩)]
theorem uZ{br ea:Int}(h:∀ j,j<7->br≠zeroL.getD j 0):(ea=1/\bA br ea=2)\/((ea == 1)=false/\ea=2/\bA br ea=2)\/((ea == 1)=false/\(ea == 2)=false/\bA br ea=1):=by
 have hn:¬ (br=1\/br=2\/br=3\/br=4\/br=5\/br=10\/br=11):=fun e=>by
  obtain ⟨j,hj,hh⟩:=(qp br).1 e;exact h j hj hh
 unfold bA;rw [if_neg hn]
 by_cases e1:ea=1
 ·exact .inl ⟨e1,by simp [e1]⟩
 by_cases e2:ea=2
 ·exact .inr (.inl ⟨by simpa using e1,e2,by simp [e2]⟩)
 ·exact .inr (.inr ⟨by simpa using e1,by simpa using e2,by simp [e1,e2]⟩)
theorem yh(br:Int)(b:Bool)(cv ea:Int)(w:World):Calls Tryz.prog 140 #[.agg #[.int .i64 br,.bool b,.int .i64 cv,.int .i64 ea]] w (Gives w (.int .i64 (bA br ea))):=by
 go_enter Tryz.func140,Tryz.ntmps140
 go_wp2;obtain ⟨W,hW,hp,hz,hl⟩:=AR w br b cv ea;rw [<-hW];have p0:=hp.cell 0 _ rfl;have p3:=hp.cell 3 _ rfl;have HP:=ab hp;have HZ:=ab hz;have hlz:=hz.lt;clear hp hz hW
 go_loopw [4] (fun i wr=>∃ k:Nat,k<=7/\i=.int .i64 k/\Hid (∀ j,j<k->br≠zeroL.getD j 0)/\Below W.heap.size W wr) (fun i _=>7 - (intOf i).toNat)
 case atStart=>exact ⟨0,Nat.zero_le _,rfl,ab (fun j hj=>by omega),Below.refl _ _⟩
 case round =>
  obtain ⟨k,hk,rfl,HN,AY⟩:=hrel;have p0:=(AY.cell (p:=⟨w.heap.size,0,none⟩) HP.out.lt).trans p0;have p3:=(AY.cell (p:=⟨w.heap.size,3,none⟩) HP.out.lt).trans p3
  by_cases hlt:k<7
  ·have hz:=(AY.cell (p:=⟨w.heap.size+1,k,none⟩) HZ.out.lt).trans (HZ.out.cell k (.int .i64 (zeroL.getD k 0)) (by
    have hk7:k<zeroL.length:=hlt
    simp [List.getElem?_eq_getElem hk7]))
   by_cases he:br=zeroL.getD k 0
   ·have HV:=ab (yg (ea:=ea) hlt he);rw [<-he] at hz;clear he HN;go_wp2
    go_quiet (fail)
    have BC:=hl.trans ((AY.drewN nq).mono hl.size);go_wp2;go_ret;exact ⟨al (by rw [HV.out];rfl),BC⟩
   ·have F3:=ab (show ∀ j,j<k+1->br≠zeroL.getD j 0 from fun j hj=>by
     by_cases h:j=k
     ·subst h;exact he
     ·exact HN.out j (by omega))
    have he':(br == zeroL.getD k 0)=false:=by simpa using he
    generalize zeroL.getD k 0=z at hz he he';go_wp2
    go_quiet (fail)
    have AY:=AY.drewN nq;go_wp2
    go_roundw
    case rel=>exact ⟨k+1,by omega,by go_num,F3,AY⟩
    case measure=>simp [intOf] <;> omega
  ·have hm:=uZ (br:=br) (ea:=ea) (fun j hj=>HN.out j (by omega));have BC:=hl.trans (AY.mono hl.size);clear HN
   rcases hm with ⟨rfl,hs⟩ | ⟨h1,rfl,hs⟩ | ⟨h1,h2,hs⟩
   all_goals
    have HS:=ab hs;clear hs;go_wp2;go_ret;exact ⟨al (by rw [HS.out];rfl),BC⟩
def gN(ps:List Pr):Nat->Bool
 | 0=>false
 | k+1=>(ps.getD k Pr.none).pc
def el(xs:List Int)(ps:List Pr)(i:Nat):Bool:=dC (decide (0<i)) (gN ps i) (xs.getD i 0) (ps.getD i Pr.none).br (ps.getD i Pr.none).pc (ps.getD i Pr.none).ea
def iZ(xs:List Int)(ps:List Pr):Nat->Bool
 | 0=>false
 | k+1=>iZ xs ps k || el xs ps k
def kj(xs:List Int)(ps:List Pr)(n:Nat):Int:=if iZ xs ps n=true then 2 else 1
theorem uX{xs:List Int}{ps:List Pr}{k n:Nat}(h:k<=n)(ha:iZ xs ps k=true):iZ xs ps n=true:=by
 induction n with
 |zero =>
  obtain rfl:k=0:=by omega
  exact ha
 |succ n ih =>
  by_cases e:k=n+1
  ·subst e;exact ha
  ·show (iZ xs ps n || el xs ps n)=true;rw [ih (by omega)];rfl
theorem ye{xs:List Int}{ps:List Pr}{k n:Nat}(h:k<n)(hc:el xs ps k=true):kj xs ps n=2:=by
 unfold kj;rw [if_pos (uX (k:=k+1) (by omega) (by show (iZ xs ps k || el xs ps k)=true;rw [hc];simp))]
theorem uY(xs:List Int)(ps:List Pr):el xs ps 0=(bA (ps.getD 0 Pr.none).br (ps.getD 0 Pr.none).ea == 2):=by
 unfold el dC gN
 simp
theorem r7(r br:Int)(pic pc:Bool)(ea:Int):((bA br ea == 2)=true/\dC true pic r br pc ea=true)\/((bA br ea == 2)=false/\(r == 65039)=true/\pic=true/\dC true pic r br pc ea=true)
  \/ ((bA br ea == 2)=false/\((r == 65039)=true/\pic=false\/(r == 65039)=false)/\pc=true/\dC true pic r br pc ea=true)\/((bA br ea == 2)=false/\((r == 65039)=true/\pic=false\/(r == 65039)=false)/\pc=false/\(br == 6)=true/\dC true pic r br pc ea=true)
  \/ ((bA br ea == 2)=false/\((r == 65039)=true/\pic=false\/(r == 65039)=false)/\pc=false/\(br == 6)=false/\dC true pic r br pc ea=false):=by
 unfold dC
 cases h1:(bA br ea == 2) <;> cases h2:(r == 65039) <;> cases pic <;> cases h3:(br == 6) <;> cases pc <;> simp
theorem yf(v u:Value)(xs:List Int)(ps:List Pr)(w:World)(hx:Held .i32 w v xs)(hp:HeldP w u ps)(hl:ps.length=xs.length)(hn:xs.length<=1000000) :
  Calls Tryz.prog 76 #[v,u] w (Gives w (.int .i64 (kj xs ps xs.length))):=by
 obtain ⟨ao,ca,rfl,hc⟩:=hx.view;obtain ⟨bo,cb,rfl,_⟩:=id hp;obtain ⟨_,hd⟩:=hp.at;have HC:=ab hc;have HD:=ab hd;rw [hl] at *;clear hc hd hx hp
 go_enter Tryz.func76,Tryz.ntmps76
 go_wp2
 go_loopw [5] (fun i wr=>∃ k:Nat,k<=xs.length/\i=.int .i64 k/\Hid (iZ xs ps k=false)/\Below w.heap.size w wr) (fun i _=>xs.length - (intOf i).toNat)
 case atStart=>exact ⟨0,Nat.zero_le _,rfl,ab rfl,Below.refl _ _⟩
 case round =>
  obtain ⟨k,hk,rfl,HN,AY⟩:=hrel
  by_cases hlt:k<xs.length
  ·obtain ⟨b1,o1,rfl,hb1,B0⟩:=HC.out k hlt;obtain ⟨b2,o2,rfl,hb2,d0,d1,d2,d3⟩:=HD.out k hlt;have hstep:iZ xs ps (k+1)=el xs ps k:=by show (iZ xs ps k || el xs ps k)=_;rw [HN.out];rfl
   have Ei:el xs ps k=true->kj xs ps xs.length=2:=ye hlt;have HR:=ab (fun w=>yh (ps.getD k Pr.none).br (ps.getD k Pr.none).pc (ps.getD k Pr.none).cv (ps.getD k Pr.none).ea w)
   cases k with
   |zero =>
    rw [uY] at hstep Ei;simp only [Nat.zero_mul,Nat.add_zero] at d0 d1 d2 d3 B0;obtain ⟨q,hq⟩:=ae (ps.getD 0 Pr.none);rw [<-hq] at d0 d1 d2 d3 hstep Ei HR;clear hq B0;generalize bA q.br q.ea=x at *;have d0:=(AY.cell (p:=⟨b2,o2,none⟩) hb2).trans d0;have d1:=(AY.cell (p:=⟨b2,o2+1,none⟩) hb2).trans d1;have d2:=(AY.cell (p:=⟨b2,o2+2,none⟩) hb2).trans d2;have d3:=(AY.cell (p:=⟨b2,o2+3,none⟩) hb2).trans d3
    cases Cp:(x == 2) with
    |true =>
     have HV:=ab (Ei Cp);clear hstep Ei HN
     go_wp2_with fail
     refine (HR.out _).mono ?_;rintro e w2 ⟨rfl,bb⟩;have BC:=AY.trans (bb.mono AY.size);clear d0 d1 d2 d3;go_wp2;go_ret;exact ⟨al (by rw [HV.out];rfl),BC⟩
    |false =>
     rw [Cp] at hstep;have F3:=ab hstep;clear hstep Ei HN
     go_wp2_with fail
     refine (HR.out _).mono ?_;rintro e w2 ⟨rfl,bb⟩;have BC:=AY.trans (bb.mono AY.size);clear d0 d1 d2 d3;go_wp2
     go_roundw
     case rel=>exact ⟨1,by omega,by go_num,F3,BC⟩
     case measure=>simp [intOf] <;> omega
   |succ m =>
    obtain ⟨b3,o3,e3,hb3,_,p1,_,_⟩:=HD.out m (by omega)
    cases e3
    have hcond:el xs ps (m+1)=dC true (ps.getD m Pr.none).pc (xs.getD (m+1) 0) (ps.getD (m+1) Pr.none).br (ps.getD (m+1) Pr.none).pc (ps.getD (m+1) Pr.none).ea:=by
     unfold el gN;rw [decide_eq_true (show 0<m+1 by omega)]
    rw [hcond] at hstep Ei;have hcs:=r7 (xs.getD (m+1) 0) (ps.getD (m+1) Pr.none).br (ps.getD m Pr.none).pc (ps.getD (m+1) Pr.none).pc (ps.getD (m+1) Pr.none).ea;obtain ⟨q,hq⟩:=ae (ps.getD (m+1) Pr.none);rw [<-hq] at d0 d1 d2 d3 hstep Ei HR hcs;obtain ⟨pic,hpic⟩:=ae ((ps.getD m Pr.none).pc);rw [<-hpic] at p1 hstep Ei hcs;obtain ⟨r,hr⟩:=ae (xs.getD (m+1) 0);rw [<-hr] at B0 hstep Ei hcs;obtain ⟨br,pc,cv,ea⟩:=q;simp only at d0 d1 d2 d3 hstep Ei HR hcs;clear hcond hq hpic hr HN;have HF:=ab (show ∀ w2,Below w.heap.size w w2->w2.cell? ⟨b1,o1+(m+1),none⟩=some (.int .i32 r)/\w2.cell? ⟨b2,o2+m * 4+1,none⟩=some (.bool pic)/\w2.cell? ⟨b2,o2+(m+1) * 4,none⟩=some (.int .i64 br)/\w2.cell? ⟨b2,o2+(m+1) * 4+1,none⟩=some (.bool pc)/\w2.cell? ⟨b2,o2+(m+1) * 4+2,none⟩=some (.int .i64 cv)/\w2.cell? ⟨b2,o2+(m+1) * 4+3,none⟩=some (.int .i64 ea) from fun w2 h =>
     ⟨(h.cell (p:=⟨b1,o1+(m+1),none⟩) hb1).trans B0,(h.cell (p:=⟨b2,o2+m * 4+1,none⟩) hb2).trans p1,(h.cell (p:=⟨b2,o2+(m+1) * 4,none⟩) hb2).trans d0,(h.cell (p:=⟨b2,o2+(m+1) * 4+1,none⟩) hb2).trans d1,(h.cell (p:=⟨b2,o2+(m+1) * 4+2,none⟩) hb2).trans d2,(h.cell (p:=⟨b2,o2+(m+1) * 4+3,none⟩) hb2).trans d3⟩)
    generalize bA br ea=x at *;clear B0 p1 d0 d1 d2 d3;have hw0:(m:Int)+1 - 1=(m:Int):=by omega
    have HST:=ab hstep;have QJ:=ab Ei;clear hstep Ei
    rcases hcs with ⟨h1,hs⟩ | ⟨h1,h2,rfl,hs⟩ | ⟨h1,⟨h2,rfl⟩ | h2,rfl,hs⟩ | ⟨h1,⟨h2,rfl⟩ | h2,rfl,h4,hs⟩ | ⟨h1,⟨h2,rfl⟩ | h2,rfl,h4,hs⟩
    all_goals
     have HS:=ab hs;clear hs;obtain ⟨c0,c1,c2,c3,c4,c5⟩:=HF.out wr AY
     go_wp2_with fail
     refine (HR.out _).mono ?_;rintro e w2 ⟨rfl,bb⟩;have BC:=AY.trans (bb.mono AY.size);clear c0 c1 c2 c3 c4 c5;obtain ⟨c0,c1,c2,c3,c4,c5⟩:=HF.out w2 BC;go_wp2
    all_goals first
     |(go_ret;exact ⟨al (by rw [QJ.out HS.out];rfl),BC⟩)
     |(go_roundw
       case rel=>exact ⟨m+2,by omega,by go_num,ab (HST.out.trans HS.out),BC⟩
       case measure=>simp [intOf] <;> omega)
  ·obtain rfl:k=xs.length:=by omega
   have HV:=ab (show kj xs ps xs.length=1 by unfold kj;rw [HN.out];rfl);clear HN;go_wp2;go_ret;exact ⟨al (by rw [HV.out];rfl),AY⟩
theorem u0(v:Value)(xs:List Int)(w:World)(hx:Held .i32 w v xs)(hn:xs.length<=1000000)(hr:∀ i,i<xs.length -> -2147483648<=xs.getD i 0/\xs.getD i 0<=2147483647) :
  Calls Tryz.prog 161 #[v] w (Gives w (.int .i64 (kj xs (aq xs) xs.length))):=by
 obtain ⟨ao,ca,rfl,hc⟩:=hx.view;have HC:=ab hc;have HX:=ab hx;have HR:=ab hr;clear hc hx hr
 go_enter Tryz.func161,Tryz.ntmps161
 go_wp2
 go_loopw [3,4] (fun p i wr=>∃ k:Nat,k<=xs.length/\i=.int .i64 k/\wr.ownsRow w.heap.size 33 4 p k (bV ((aq xs).take k))/\Below w.heap.size w wr) (fun _ i _=>xs.length - (intOf i).toNat)
 case atStart=>exact ⟨0,Nat.zero_le _,rfl,World.ownsRow_nil _ _ _ _,Below.refl _ _⟩
 case round =>
  obtain ⟨k,hk,rfl,hown,AY⟩:=hrel
  by_cases hlt:k<xs.length
  ·obtain ⟨b,off,rfl,hb,B0⟩:=HC.out k hlt;have B0:=(AY.cell (p:=⟨b,off+k,none⟩) hb).trans B0;obtain ⟨r0,r1⟩:=HR.out k hlt;have Db:=pz (aq xs) k (by rw [cX];exact hlt);rw [mQ hlt] at Db;obtain ⟨r,hr⟩:=ae (xs.getD k 0);rw [<-hr] at B0 r0 r1 Db;have Fc:=ab Db;have HOW:=ab hown;clear hr Db hown
   go_wp2_with fail
   refine (lA r _ r0 r1).mono ?_;rintro e w1 ⟨rfl,b1⟩;have hown1:=aA HOW.out b1;have hb1:=AY.trans (b1.mono AY.size);rw [show gS r=.agg #[.int .i64 (bQ r),.bool (aM tPict r),.int .i64 (dy r),.int .i64 (eN r)] from rfl];clear B0
   go_wp2_with (at_builtin;refine fh w1 rfl (.tmp 11) (.tmp 17) 28 rfl w.heap.size 33 (.agg #[.int .i64 0,.bool false,.int .i64 0,.int .i64 0]) 4 32 Tryz.underlying28 mR rfl (by decide) u3 k (bV ((aq xs).take k)) rfl hown1 [.int .i64 (bQ r),.bool (aM tPict r),.int .i64 (dy r),.int .i64 (eN r)] 1 1 rfl rfl (by intro u hu;simp at hu;rcases hu with rfl | rfl | rfl | rfl <;> rfl) (by omega) (by omega) hb1.size ?_)
   intro v' w' hown' hb';have hown2:w'.ownsRow w.heap.size 33 4 v' (k+1) (bV ((aq xs).take (k+1))):=by rw [Fc.out];exact hown'
   have MV:=hb1.trans hb';clear hown1 hown';go_wp2
   go_roundw
   case rel=>exact ⟨k+1,by omega,by go_num,hown2,MV⟩
   case measure=>simp [intOf] <;> omega
  ·obtain rfl:k=xs.length:=by omega
   rw [List.take_of_length_le (by rw [cX];exact Nat.le_refl _)] at hown;have hp:=iF hown;obtain ⟨po,pc,rfl,_⟩:=id hp;have HP:=ab hp;clear hp hown
   go_wp2_with fail
   refine (yf _ _ xs (aq xs) _ (HX.out.below AY) HP.out (cX xs) hn).mono ?_;rintro e w2 ⟨rfl,b2⟩;have BC:=AY.trans (b2.mono AY.size);go_wp2;go_ret;exact ⟨af,BC⟩
theorem kJ{P:Program}{ρ:Operand->Value}{o:Oper}{s x:Operand}{t:TypeId}{w w':World}{v u v':Value}(ho:o.op=.call { callee:=.builtin .append,args:=#[s,x],argTypes:=#[t,t] })(hs:ρ s=v)(hx:ρ x=u)
  (hr:(Builtin.append_ #[t,t] o.type #[v,u]).run P w=.ok v' w'):(execOp ρ o).run P w=.ok (.value v') w':=by
 unfold execOp;simp only [ho,resolve,invoke,builtin,Sem.run_bind,Sem.run_pure,Result.andThen_ok,List.map_toArray,List.map_cons,List.map_nil,hs,hx,hr]
def wdC(T:List Int):Int:=if bT (T.getD 0 0)=true then 0 else kj (T.take 16) (aq (T.take 16)) (T.take 16).length
theorem zx(xs:List Int)(ps:List Pr)(n:Nat):kj xs ps n=1\/kj xs ps n=2:=by unfold kj;split <;> simp
theorem Ai(T:List Int):(bT (T.getD 0 0)=true/\wdC T=0)\/(bT (T.getD 0 0)=false/\1<=wdC T/\wdC T<=2):=by
 unfold wdC
 cases h:bT (T.getD 0 0) with
 |true=>exact .inl ⟨rfl,by simp⟩
 |false =>
  right
  refine ⟨rfl,?_⟩;rw [if_neg (by simp)]
  rcases zx (T.take 16) (aq (T.take 16)) (T.take 16).length with h | h <;> omega
end Go.Proofs.YtoeggiplcaegoaaGreatDoor
