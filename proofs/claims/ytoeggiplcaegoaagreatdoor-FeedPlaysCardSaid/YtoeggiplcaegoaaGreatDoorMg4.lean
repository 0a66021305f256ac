import Derived.Test.YtoeggiplcaegoaaGreatDoorZ0
import Derived.Test.YtoeggiplcaegoaaGreatDoorErfA
import Derived.Test.YtoeggiplcaegoaaGreatDoorRows
import Derived.LaidMore
import Derived.Test.YtoeggiplcaegoaaGreatDoorErrS
import Derived.Test.YtoeggiplcaegoaaGreatDoorSegR
import Derived.Test.YtoeggiplcaegoaaGreatDoorMg3
import Derived.Test.YtoeggiplcaegoaaGreatDoorHgR
import Derived.Test.YtoeggiplcaegoaaGreatDoorMg1
import Derived.Laws.StructEq
import Derived.Test.YtoeggiplcaegoaaGreatDoorMg2
import Derived.Sort.CutIn
set_option maxRecDepth 100000
set_option linter.unusedVariables false
set_option linter.unusedSimpArgs false
set_option maxHeartbeats 2000000
namespace Go.Proofs.YtoeggiplcaegoaaGreatDoor.F
open Go.RowKit
theorem Handle.keep{w w':World}(h:Handle w)(hb:Below w.heap.size w w'):Handle w':=(hb.cell (p:=⟨8,0,none⟩) (World.block_lt_of_cell? _ _ h)).trans h
end Go.Proofs.YtoeggiplcaegoaaGreatDoor.F
namespace Go.Proofs.YtoeggiplcaegoaaGreatDoor.F
open Go.RowKit Go.ChangeShapes
end Go.Proofs.YtoeggiplcaegoaaGreatDoor.F
namespace Go.Proofs.YtoeggiplcaegoaaGreatDoor
open Go.RowKit Go.ChangeShapes Go.WideShapes
theorem uO(xs:List Pr)(m:Nat)(j:Int)(hj:cl (xs.getD m Pr.none).br (xs.getD (m+1) Pr.none).br=j) :
  ((j == 1)=true/\jR xs (m+1)=true)\/((j == 1)=false/\jf xs (m+1)=true/\jR xs (m+1)=true)\/((j == 1)=false/\jf xs (m+1)=false/\ip xs (m+1)=true/\jR xs (m+1)=true)
  \/ ((j == 1)=false/\jf xs (m+1)=false/\ip xs (m+1)=false/\(j != 2)=true/\jR xs (m+1)=false)
  \/ ((j == 1)=false/\jf xs (m+1)=false/\ip xs (m+1)=false/\(j != 2)=false/\((xs.getD (m+1) Pr.none).br != 6)=true/\jR xs (m+1)=false)
  \/ ((j == 1)=false/\jf xs (m+1)=false/\ip xs (m+1)=false/\(j != 2)=false/\((xs.getD (m+1) Pr.none).br != 6)=false/\jR xs (m+1)=decide (dT xs (m+1) % 2=1)):=by
 unfold jR;rw [if_neg (show ¬ m+1=0 by omega),show m+1 - 1=m by omega,hj];generalize (xs.getD (m+1) Pr.none).br=b at *;generalize jf xs (m+1)=c;generalize ip xs (m+1)=p
 by_cases h1:j=1
 ·exact .inl ⟨by simpa using h1,by rw [if_pos h1]⟩
 have d1:(j == 1)=false:=by simpa using h1
 rw [if_neg h1]
 cases c with
 |true=>exact .inr (.inl ⟨d1,rfl,rfl⟩)
 |false =>
  cases p with
  |true=>exact .inr (.inr (.inl ⟨d1,rfl,rfl,rfl⟩))
  |false =>
   by_cases h2:j=2
   ·have d2:(j != 2)=false:=by simpa using h2
    by_cases h6:b=6
    ·exact .inr (.inr (.inr (.inr (.inr ⟨d1,rfl,rfl,d2,by simpa using h6,by simp [h2,h6]⟩))))
    ·exact .inr (.inr (.inr (.inr (.inl ⟨d1,rfl,rfl,d2,by simpa using h6,by simp [h6]⟩))))
   ·exact .inr (.inr (.inr (.inl ⟨d1,rfl,rfl,by simpa using h2,by simp [h2]⟩)))
theorem oW(xs:List Pr)(k:Nat):(((xs.getD k Pr.none).br == 6)=true/\dT xs (k+1)=dT xs k+1)\/(((xs.getD k Pr.none).br == 6)=false/\dT xs (k+1)=0):=by
 have hstep:dT xs (k+1)=(if (xs.getD k Pr.none).br=6 then dT xs k+1 else 0):=rfl;rw [hstep];generalize (xs.getD k Pr.none).br=b
 by_cases h:b=6
 ·exact .inl ⟨by simpa using h,by rw [if_pos h]⟩
 ·exact .inr ⟨by simpa using h,by rw [if_neg h]⟩
theorem l6(a b:Int)(w:World):Calls Tryz.prog 253 #[.int .i64 a,.int .i64 b] w (Gives w (.int .i64 (cl a b))):=pe a b w
theorem oX(v:Value)(xs:List Pr)(w:World)(hh:HeldP w v xs):Calls Tryz.prog 210 #[v,.int .i64 0] w (Gives w (.bool (jR xs 0))):=by
 obtain ⟨ao,cap,rfl,_⟩:=id hh;rw [show jR xs 0=false from rfl]
 go_enter Tryz.func210,Tryz.ntmps210
 go_wp2;go_ret;exact ⟨af,Below.refl _ _⟩
theorem ff(v:Value)(xs:List Pr)(m:Nat)(w:World)(hh:HeldP w v xs)(hi:m+1<xs.length)(hl:xs.length<=1000000) :
 Calls Tryz.prog 254 #[v,.int .i64 ((m:Int)+1)] w (Gives w (.bool (jf xs (m+1)))):=sE v xs (m+1) w hh hi hl
theorem ia(v:Value)(xs:List Pr)(m:Nat)(w:World)(hh:HeldP w v xs)(hi:m+1<xs.length)(hl:xs.length<=1000000) :
 Calls Tryz.prog 255 #[v,.int .i64 ((m:Int)+1)] w (Gives w (.bool (ip xs (m+1)))):=uP v xs (m+1) w hh hi hl
theorem oY(v:Value)(xs:List Pr)(m:Nat)(w:World)(hh:HeldP w v xs)(hi:m+1<xs.length)(hl:xs.length<=1000000) :
  Calls Tryz.prog 210 #[v,.int .i64 ((m:Int)+1)] w (Gives w (.bool (jR xs (m+1)))):=by
 obtain ⟨ao,cap,rfl,hc0⟩:=id hh;clear hc0;obtain ⟨_,hc⟩:=hh.at;have HC:=ab hc;have HH:=ab hh;clear hc hh;obtain ⟨b,off,rfl,hb,hx,_,_,_⟩:=HC.out m (by omega);obtain ⟨b',off',e',hb',hy,_,_,_⟩:=HC.out (m+1) hi
 cases e'
 have hw0:(m:Int)+1 - 1=(m:Int):=by omega
 obtain ⟨j,hj⟩ : ∃ j,cl (xs.getD m Pr.none).br (xs.getD (m+1) Pr.none).br=j:=⟨_,rfl⟩;have KS:=uO xs m j hj;obtain ⟨x,hx0⟩:=ae ((xs.getD m Pr.none).br);obtain ⟨y,CF⟩:=ae ((xs.getD (m+1) Pr.none).br);rw [<-CF] at hj hy KS;rw [<-hx0] at hj hx;have HY0:=ab CF;have DQ:=ab KS;have HJ:=ab hj;clear hx0 CF KS;have kx:=aj hx;have ky:=aj hy;have hlx:(m:Int)<(xs.length:Int):=by omega
 have hly:(m:Int)+1<(xs.length:Int):=by omega
 have HY:=ab hy;clear hx hy hj
 go_enter Tryz.func210,Tryz.ntmps210
 go_wp2_with fail
 refine aI (by kernel_rfl) (by kernel_rfl) ?_
 repeat (go_big_quiet_step ((go_at_call 253;exact dY (l6 _ _ _))))
 refine wpQuiet_nil ?_;intro _ hw';obtain ⟨u,hw''⟩:=hw';subst hw'';rw [HJ.out];obtain ⟨W,hW⟩:=ae (ext w u);rw [<-hW];have hb0:Below w.heap.size w W:=by rw [hW];exact u.ok
 have Ix:=HH.out.below hb0;have O0:=(hb0.cell (p:=⟨b,off+(m+1) * 4,none⟩) hb).trans HY.out;clear hW kx ky
 rcases DQ.out with ⟨h1,hs⟩ | ⟨h1,h2,hs⟩ | ⟨h1,h2,h3,hs⟩ | ⟨h1,h2,h3,h4,hs⟩ | ⟨h1,h2,h3,h4,h5,hs⟩ | ⟨h1,h2,h3,h4,h5,hs⟩
 ·have HS:=ab hs;clear hs DQ;go_wp2;go_ret;exact ⟨al (by rw [HS.out];rfl),hb0⟩
 ·have HS:=ab hs;clear hs DQ
  go_wp2_with fail
  refine (ff _ xs m _ Ix hi hl).mono ?_;rintro e w2 ⟨rfl,b2⟩;have hb2:=hb0.trans (b2.mono hb0.size);go_wp2;go_ret;exact ⟨al (by rw [HS.out];rfl),hb2⟩
 ·have HS:=ab hs;clear hs DQ
  go_wp2_with fail
  refine (ff _ xs m _ Ix hi hl).mono ?_;rintro e w2 ⟨rfl,b2⟩
  go_wp2_with fail
  refine (ia _ xs m _ (Ix.below b2) hi hl).mono ?_;rintro e w3 ⟨rfl,b3⟩;have hb3:=hb0.trans ((b2.trans (b3.mono b2.size)).mono hb0.size);go_wp2;go_ret;exact ⟨al (by rw [HS.out];rfl),hb3⟩
 ·have HS:=ab hs;clear hs DQ
  go_wp2_with fail
  refine (ff _ xs m _ Ix hi hl).mono ?_;rintro e w2 ⟨rfl,b2⟩
  go_wp2_with fail
  refine (ia _ xs m _ (Ix.below b2) hi hl).mono ?_;rintro e w3 ⟨rfl,b3⟩;have hb3:=hb0.trans ((b2.trans (b3.mono b2.size)).mono hb0.size);go_wp2;go_ret;exact ⟨al (by rw [HS.out];rfl),hb3⟩
 ·have HS:=ab hs;clear hs DQ
  go_wp2_with fail
  refine (ff _ xs m _ Ix hi hl).mono ?_;rintro e w2 ⟨rfl,b2⟩
  go_wp2_with fail
  refine (ia _ xs m _ (Ix.below b2) hi hl).mono ?_;rintro e w3 ⟨rfl,b3⟩;have hb3:=hb0.trans ((b2.trans (b3.mono b2.size)).mono hb0.size);have hy3:=((b2.trans (b3.mono b2.size)).cell (p:=⟨b,off+(m+1) * 4,none⟩) (Nat.lt_of_lt_of_le hb hb0.size)).trans O0;go_wp2;go_ret;exact ⟨al (by rw [HS.out];rfl),hb3⟩
 ·have HS:=ab hs;clear hs DQ
  go_wp2_with fail
  refine (ff _ xs m _ Ix hi hl).mono ?_;rintro e w2 ⟨rfl,b2⟩
  go_wp2_with fail
  refine (ia _ xs m _ (Ix.below b2) hi hl).mono ?_;rintro e w3 ⟨rfl,b3⟩;have hb3:=hb0.trans ((b2.trans (b3.mono b2.size)).mono hb0.size);have hy3:=((b2.trans (b3.mono b2.size)).cell (p:=⟨b,off+(m+1) * 4,none⟩) (Nat.lt_of_lt_of_le hb hb0.size)).trans O0;go_wp2
  go_loopw [6,7] (fun nv kv wr=>∃ (k n:Nat),k<=m+1/\n<=m+1 - k/\nv=.int .i64 n/\kv=.int .i64 ((k:Int) - 1)/\Hid (n+dT xs k=dT xs (m+1))/\Below w.heap.size w wr) (fun _ kv _=>(intOf kv+1).toNat)
  case atStart=>exact ⟨m+1,0,Nat.le_refl _,by omega,rfl,by congr 1;omega,ab (by omega),hb3⟩
  case round =>
   obtain ⟨k,n,hk,hn,rfl,rfl,HQ,zN⟩:=hrel;clear O0 hy3
   cases k with
   |zero =>
    have hq:=HQ.out;rw [show dT xs 0=0 from rfl] at hq;have Ev:n=dT xs (m+1):=by omega
    have HN:=ab Ev;clear hq Ev;go_wp2;go_ret;exact ⟨al (by rw [HS.out,<-HN.out];simp;rw [Bool.eq_iff_iff];simp;omega),zN⟩
   |succ k =>
    obtain ⟨b',off',e',hb',hx,_⟩:=HC.out k (by omega)
    cases e'
    have hx:=(zN.cell (p:=⟨b,off+k * 4,none⟩) hb').trans hx;have Cd:(((k+1:Nat):Int) - 1)=(k:Int):=by omega
    rw [Cd];clear Cd hw0
    rcases oW xs k with ⟨h1,hs⟩ | ⟨h1,hs⟩
    ·have ES:=ab (show n+1+dT xs k=dT xs (m+1) by have:=HQ.out;rw [hs] at this;omega);clear hs HQ;generalize (xs.getD k Pr.none).br=c at *;go_wp2
     go_roundw
     case rel=>exact ⟨k,n+1,by omega,by omega,by go_num,by simp,ES,zN⟩
     case measure=>simp [intOf] <;> omega
    ·have HN:=ab (show n=dT xs (m+1) by have:=HQ.out;rw [hs] at this;omega);clear hs HQ;generalize (xs.getD k Pr.none).br=c at *;go_wp2;go_ret;exact ⟨al (by rw [HS.out,<-HN.out];simp;rw [Bool.eq_iff_iff];simp;omega),zN⟩
theorem qB(v:Value)(xs:List Pr)(i:Nat)(w:World)(hh:HeldP w v xs)(hi:i<xs.length)(hl:xs.length<=1000000) :
  Calls Tryz.prog 210 #[v,.int .i64 i] w (Gives w (.bool (jR xs i))):=by
 cases i with
 |zero=>exact oX v xs w hh
 |succ m=>exact oY v xs m w hh hi hl
def At(w:World)(g:Nat)(xs:List Pr)(k:Nat):Prop:=zt w g (decide (0<k)) (lSt xs k) (cSt xs k) (pSt xs k) (oSt xs k)
def ofI:List (List (Int × Int))->Int->Int->Int->Int
 | [],_,_,d=>d
 | T :: Ts,n,r,d=>if aL T r=true then n else ofI Ts (n+1) r d
theorem kM(r d:Int):∀ (Ts:List (List (Int × Int))) (n:Int) (k:Nat),k<Ts.length->(∀ j,j<k->aL (Ts.getD j []) r=false)->aL (Ts.getD k []) r=true->ofI Ts n r d=n+k
 |[],_,k,hk,_,_=>absurd hk (Nat.not_lt_zero _)
 |T :: Ts,n,0,_,_,h=>by
  have h':aL T r=true:=h;unfold ofI;rw [if_pos h']
  simp
 |T :: Ts,n,k+1,hk,hj,h=>by
  have h':aL T r=false:=hj 0 (by omega);unfold ofI;rw [h',if_neg (by decide),kM r d Ts (n+1) k (by simpa using hk) (fun j h=>hj (j+1) (by omega)) h]
  push_cast
  omega
theorem je(r d:Int):∀ (Ts:List (List (Int × Int))) (n:Int),(∀ j,j<Ts.length->aL (Ts.getD j []) r=false)->ofI Ts n r d=d
 |[],_,_=>rfl
 |T :: Ts,n,hj=>by
  have h':aL T r=false:=hj 0 (by simp);unfold ofI;rw [h',if_neg (by decide),je r d Ts (n+1) (fun j h=>hj (j+1) (by simpa using h))]
def tabs09:List (List (Int × Int)):=[tCR,tLF,tControl,tExtend,tZWJ,tRI,tPrepend,tSpacing]
def tabs11:List (List (Int × Int)):=[tCons,tLink,tJoin]
def tabs12:List (List (Int × Int)):=[tWide,tFull,tHalf]
theorem qA{W:World}{g:Nat}{vs:List Value}{t:TypeId}(h:Has W g vs t)(k:Nat)(hk:k<vs.length):W.cell? ⟨g,k,none⟩=some (vs.getD k undef) :=
 h.cell k _ (by simp [List.getD,List.getElem?_eq_getElem hk])
theorem sB(r:Int)(w:World)(r0 : -2147483648<=r)(r1:r<=2147483647):Calls Tryz.prog 66 #[.int .i32 r] w (Gives w (.int .i64 (ofI tabs11 1 r 0))):=by
 go_enter Tryz.func66,Tryz.ntmps66
 go_wp2_with fail
 refine (nz _).mono ?_;rintro e w1 ⟨v1,rfl,h1,b1⟩;obtain ⟨ao1,c1,rfl,_⟩:=id h1.view;have H1:=ab h1;clear h1
 go_wp2_with fail
 refine (nA _).mono ?_;rintro e w2 ⟨v2,rfl,h2,b2⟩;obtain ⟨ao2,c2,rfl,_⟩:=id h2.view;have H2:=ab h2;clear h2
 go_wp2_with fail
 refine (nD _).mono ?_;rintro e w3 ⟨v3,rfl,h3,b3⟩;obtain ⟨ao3,c3,rfl,_⟩:=id h3.view;have H3:=ab h3;clear h3;go_wp2;obtain ⟨vs,IA⟩ : ∃ vs:List Value,vs=[.slice ao1 tCons.length c1,.slice ao2 tLink.length c2,.slice ao3 tJoin.length c3]:=⟨_,rfl⟩;obtain ⟨W,hW⟩:=ae (w3.alloc (.cells vs.toArray 188));have hE:w3.alloc (.cells #[.slice ao1 tCons.length c1,.slice ao2 tLink.length c2,.slice ao3 tJoin.length c3] 188)=W:=by rw [hW,IA]
 rw [hE];have hlen:vs.length=3:=by rw [IA];rfl
 have hs:Has W w3.heap.size vs 188:=by rw [hW];exact Has.new w3 _ _
 have Eh:Below w3.heap.size w3 W:=by rw [hW];exact zI _ _
 have D0:Below w2.heap.size w2 W:=b3.trans (Eh.mono b3.size);have El:Below w1.heap.size w1 W:=b2.trans (D0.mono b2.size);have hall:∀ k,k<3->HeldT .i64 W (vs.getD k undef) (tabs11.getD k []):=by
  intro k hk;rw [IA]
  match k,hk with
  |0,_=>exact H1.out.below El
  |1,_=>exact H2.out.below D0
  |2,_=>exact H3.out.below Eh
 have hl:Below w.heap.size w W:=b1.trans (El.mono b1.size);have hsm:∀ k,k<3->(tabs11.getD k []).length<=1000000:=by
  intro k hk
  match k,hk with
  |0,_=>show tCons.length<=1000000;decide +kernel
  |1,_=>show tLink.length<=1000000;decide +kernel
  |2,_=>show tJoin.length<=1000000;decide +kernel
 have HA:=ab hall;have HS:=ab hs;have HM:=ab hsm;clear hall hsm hE IA hW H1 H2 H3 b1 b2 b3 El D0 Eh
 go_loopw [4] (fun i wr=>∃ k:Nat,k<=3/\i=.int .i64 k/\Hid (∀ j,j<k->aL (tabs11.getD j []) r=false)/\Below W.heap.size W wr) (fun i _=>3 - (intOf i).toNat)
 case atStart=>exact ⟨0,Nat.zero_le _,rfl,ab (fun j hj=>by omega),Below.refl _ _⟩
 case round =>
  obtain ⟨k,hk,rfl,HN,zN⟩:=hrel
  by_cases hlt:k<3
  ·have hh:=(HA.out k hlt).below zN;have AX:=(zN.cell (p:=⟨w3.heap.size,k,none⟩) HS.out.lt).trans (qA HS.out k (by rw [hlen];exact hlt));have hm:=HM.out k hlt;obtain ⟨T,hT⟩:=ae (tabs11.getD k []);rw [<-hT] at hh hm;have HT:=ab hT;obtain ⟨ao,cap,hv,_⟩:=id hh.view;rw [hv] at hh AX;have HH:=ab hh;clear hh hv hT
   cases Bb:aL T r with
   |true =>
    have he:=kM r 0 tabs11 1 k hlt HN.out (by rw [<-HT.out];exact Bb);have HE:=ab he;clear he
    go_wp2_with fail
    refine (iH _ T r _ HH.out hm r0 r1).mono ?_;rintro e wx ⟨rfl,bx⟩;have Ax:=hl.trans ((zN.trans (bx.mono zN.size)).mono hl.size);go_wp2;go_ret;exact ⟨al (by rw [HE.out];simp;try omega),Ax⟩
   |false =>
    have FC:=ab (show ∀ j,j<k+1->aL (tabs11.getD j []) r=false from fun j hj=>by
     by_cases h:j=k
     ·subst h;rw [<-HT.out];exact Bb
     ·exact HN.out j (by omega))
    go_wp2_with fail
    refine (iH _ T r _ HH.out hm r0 r1).mono ?_;rintro e wx ⟨rfl,bx⟩;have BR:=zN.trans (bx.mono zN.size);go_wp2
    go_roundw
    case rel=>exact ⟨k+1,by omega,by go_num,FC,BR⟩
    case measure=>simp [intOf];omega
  ·have he:=je r 0 tabs11 1 (fun j hj=>HN.out j (Nat.lt_of_lt_of_le hj (show 3<=k by omega)));have HE:=ab he;clear he;have Ax:=hl.trans (zN.mono hl.size);go_wp2;go_ret;exact ⟨al (by rw [HE.out];try rfl),Ax⟩
theorem sC(r:Int)(w:World)(r0 : -2147483648<=r)(r1:r<=2147483647):Calls Tryz.prog 67 #[.int .i32 r] w (Gives w (.int .i64 (ofI tabs12 1 r 0))):=by
 go_enter Tryz.func67,Tryz.ntmps67
 go_wp2_with fail
 refine (nE _).mono ?_;rintro e w1 ⟨v1,rfl,h1,b1⟩;obtain ⟨ao1,c1,rfl,_⟩:=id h1.view;have H1:=ab h1;clear h1
 go_wp2_with fail
 refine (nF _).mono ?_;rintro e w2 ⟨v2,rfl,h2,b2⟩;obtain ⟨ao2,c2,rfl,_⟩:=id h2.view;have H2:=ab h2;clear h2
 go_wp2_with fail
 refine (nI _).mono ?_;rintro e w3 ⟨v3,rfl,h3,b3⟩;obtain ⟨ao3,c3,rfl,_⟩:=id h3.view;have H3:=ab h3;clear h3;go_wp2;obtain ⟨vs,IA⟩ : ∃ vs:List Value,vs=[.slice ao1 tWide.length c1,.slice ao2 tFull.length c2,.slice ao3 tHalf.length c3]:=⟨_,rfl⟩;obtain ⟨W,hW⟩:=ae (w3.alloc (.cells vs.toArray 188));have hE:w3.alloc (.cells #[.slice ao1 tWide.length c1,.slice ao2 tFull.length c2,.slice ao3 tHalf.length c3] 188)=W:=by rw [hW,IA]
 rw [hE];have hlen:vs.length=3:=by rw [IA];rfl
 have hs:Has W w3.heap.size vs 188:=by rw [hW];exact Has.new w3 _ _
 have Eh:Below w3.heap.size w3 W:=by rw [hW];exact zI _ _
 have D0:Below w2.heap.size w2 W:=b3.trans (Eh.mono b3.size);have El:Below w1.heap.size w1 W:=b2.trans (D0.mono b2.size);have hall:∀ k,k<3->HeldT .i64 W (vs.getD k undef) (tabs12.getD k []):=by
  intro k hk;rw [IA]
  match k,hk with
  |0,_=>exact H1.out.below El
  |1,_=>exact H2.out.below D0
  |2,_=>exact H3.out.below Eh
 have hl:Below w.heap.size w W:=b1.trans (El.mono b1.size);have hsm:∀ k,k<3->(tabs12.getD k []).length<=1000000:=by
  intro k hk
  match k,hk with
  |0,_=>show tWide.length<=1000000;decide +kernel
  |1,_=>show tFull.length<=1000000;decide +kernel
  |2,_=>show tHalf.length<=1000000;decide +kernel
 have HA:=ab hall;have HS:=ab hs;have HM:=ab hsm;clear hall hsm hE IA hW H1 H2 H3 b1 b2 b3 El D0 Eh
 go_loopw [4] (fun i wr=>∃ k:Nat,k<=3/\i=.int .i64 k/\Hid (∀ j,j<k->aL (tabs12.getD j []) r=false)/\Below W.heap.size W wr) (fun i _=>3 - (intOf i).toNat)
 case atStart=>exact ⟨0,Nat.zero_le _,rfl,ab (fun j hj=>by omega),Below.refl _ _⟩
 case round =>
  obtain ⟨k,hk,rfl,HN,zN⟩:=hrel
  by_cases hlt:k<3
  ·have hh:=(HA.out k hlt).below zN;have AX:=(zN.cell (p:=⟨w3.heap.size,k,none⟩) HS.out.lt).trans (qA HS.out k (by rw [hlen];exact hlt));have hm:=HM.out k hlt;obtain ⟨T,hT⟩:=ae (tabs12.getD k []);rw [<-hT] at hh hm;have HT:=ab hT;obtain ⟨ao,cap,hv,_⟩:=id hh.view;rw [hv] at hh AX;have HH:=ab hh;clear hh hv hT
   cases Bb:aL T r with
   |true =>
    have he:=kM r 0 tabs12 1 k hlt HN.out (by rw [<-HT.out];exact Bb);have HE:=ab he;clear he
    go_wp2_with fail
    refine (iH _ T r _ HH.out hm r0 r1).mono ?_;rintro e wx ⟨rfl,bx⟩;have Ax:=hl.trans ((zN.trans (bx.mono zN.size)).mono hl.size);go_wp2;go_ret;exact ⟨al (by rw [HE.out];simp;try omega),Ax⟩
   |false =>
    have FC:=ab (show ∀ j,j<k+1->aL (tabs12.getD j []) r=false from fun j hj=>by
     by_cases h:j=k
     ·subst h;rw [<-HT.out];exact Bb
     ·exact HN.out j (by omega))
    go_wp2_with fail
    refine (iH _ T r _ HH.out hm r0 r1).mono ?_;rintro e wx ⟨rfl,bx⟩;have BR:=zN.trans (bx.mono zN.size);go_wp2
    go_roundw
    case rel=>exact ⟨k+1,by omega,by go_num,FC,BR⟩
    case measure=>simp [intOf];omega
  ·have he:=je r 0 tabs12 1 (fun j hj=>HN.out j (Nat.lt_of_lt_of_le hj (show 3<=k by omega)));have HE:=ab he;clear he;have Ax:=hl.trans (zN.mono hl.size);go_wp2;go_ret;exact ⟨al (by rw [HE.out];try rfl),Ax⟩
theorem sD(r:Int)(w:World)(r0 : -2147483648<=r)(r1:r<=2147483647):Calls Tryz.prog 64 #[.int .i32 r] w (Gives w (.int .i64 (ofI tabs09 1 r (bi r)))):=by
 go_enter Tryz.func64,Tryz.ntmps64
 go_wp2_with fail
 refine (np _).mono ?_;rintro e w1 ⟨v1,rfl,h1,b1⟩;obtain ⟨ao1,c1,rfl,_⟩:=id h1.view;have H1:=ab h1;clear h1
 go_wp2_with fail
 refine (nr _).mono ?_;rintro e w2 ⟨v2,rfl,h2,b2⟩;obtain ⟨ao2,c2,rfl,_⟩:=id h2.view;have H2:=ab h2;clear h2
 go_wp2_with fail
 refine (ns _).mono ?_;rintro e w3 ⟨v3,rfl,h3,b3⟩;obtain ⟨ao3,c3,rfl,_⟩:=id h3.view;have H3:=ab h3;clear h3
 go_wp2_with fail
 refine (nt _).mono ?_;rintro e w4 ⟨v4,rfl,h4,b4⟩;obtain ⟨ao4,c4,rfl,_⟩:=id h4.view;have H4:=ab h4;clear h4
 go_wp2_with fail
 refine (nu _).mono ?_;rintro e w5 ⟨v5,rfl,h5,b5⟩;obtain ⟨ao5,c5,rfl,_⟩:=id h5.view;have H5:=ab h5;clear h5
 go_wp2_with fail
 refine (nw _).mono ?_;rintro e w6 ⟨v6,rfl,h6,b6⟩;obtain ⟨ao6,c6,rfl,_⟩:=id h6.view;have H6:=ab h6;clear h6
 go_wp2_with fail
 refine (nx _).mono ?_;rintro e w7 ⟨v7,rfl,h7,b7⟩;obtain ⟨ao7,c7,rfl,_⟩:=id h7.view;have H7:=ab h7;clear h7
 go_wp2_with fail
 refine (ny _).mono ?_;rintro e w8 ⟨v8,rfl,h8,b8⟩;obtain ⟨ao8,c8,rfl,_⟩:=id h8.view;have H8:=ab h8;clear h8;go_wp2;obtain ⟨vs,IA⟩ : ∃ vs:List Value,vs=[.slice ao1 tCR.length c1,.slice ao2 tLF.length c2,.slice ao3 tControl.length c3,.slice ao4 tExtend.length c4,.slice ao5 tZWJ.length c5,.slice ao6 tRI.length c6,.slice ao7 tPrepend.length c7,.slice ao8 tSpacing.length c8]:=⟨_,rfl⟩;obtain ⟨W,hW⟩:=ae (w8.alloc (.cells vs.toArray 188));have hE:w8.alloc (.cells #[.slice ao1 tCR.length c1,.slice ao2 tLF.length c2,.slice ao3 tControl.length c3,.slice ao4 tExtend.length c4,.slice ao5 tZWJ.length c5,.slice ao6 tRI.length c6,.slice ao7 tPrepend.length c7,.slice ao8 tSpacing.length c8] 188)=W:=by rw [hW,IA]
 rw [hE];have hlen:vs.length=8:=by rw [IA];rfl
 have hs:Has W w8.heap.size vs 188:=by rw [hW];exact Has.new w8 _ _
 have LL:Below w8.heap.size w8 W:=by rw [hW];exact zI _ _
 have Lu:Below w7.heap.size w7 W:=b8.trans (LL.mono b8.size);have Ml:Below w6.heap.size w6 W:=b7.trans (Lu.mono b7.size);have Lo:Below w5.heap.size w5 W:=b6.trans (Ml.mono b6.size);have Lv:Below w4.heap.size w4 W:=b5.trans (Lo.mono b5.size);have Eh:Below w3.heap.size w3 W:=b4.trans (Lv.mono b4.size);have D0:Below w2.heap.size w2 W:=b3.trans (Eh.mono b3.size);have El:Below w1.heap.size w1 W:=b2.trans (D0.mono b2.size);have hall:∀ k,k<8->HeldT .i64 W (vs.getD k undef) (tabs09.getD k []):=by
  intro k hk;rw [IA]
  match k,hk with
  |0,_=>exact H1.out.below El
  |1,_=>exact H2.out.below D0
  |2,_=>exact H3.out.below Eh
  |3,_=>exact H4.out.below Lv
  |4,_=>exact H5.out.below Lo
  |5,_=>exact H6.out.below Ml
  |6,_=>exact H7.out.below Lu
  |7,_=>exact H8.out.below LL
 have hl:Below w.heap.size w W:=b1.trans (El.mono b1.size);have hsm:∀ k,k<8->(tabs09.getD k []).length<=1000000:=by
  intro k hk
  match k,hk with
  |0,_=>show tCR.length<=1000000;decide +kernel
  |1,_=>show tLF.length<=1000000;decide +kernel
  |2,_=>show tControl.length<=1000000;decide +kernel
  |3,_=>show tExtend.length<=1000000;decide +kernel
  |4,_=>show tZWJ.length<=1000000;decide +kernel
  |5,_=>show tRI.length<=1000000;decide +kernel
  |6,_=>show tPrepend.length<=1000000;decide +kernel
  |7,_=>show tSpacing.length<=1000000;decide +kernel
 have HA:=ab hall;have HS:=ab hs;have HM:=ab hsm;clear hall hsm hE IA hW H1 H2 H3 H4 H5 H6 H7 H8 b1 b2 b3 b4 b5 b6 b7 b8 El D0 Eh Lv Lo Ml Lu LL
 go_loopw [4] (fun i wr=>∃ k:Nat,k<=8/\i=.int .i64 k/\Hid (∀ j,j<k->aL (tabs09.getD j []) r=false)/\Below W.heap.size W wr) (fun i _=>8 - (intOf i).toNat)
 case atStart=>exact ⟨0,Nat.zero_le _,rfl,ab (fun j hj=>by omega),Below.refl _ _⟩
 case round =>
  obtain ⟨k,hk,rfl,HN,zN⟩:=hrel
  by_cases hlt:k<8
  ·have hh:=(HA.out k hlt).below zN;have AX:=(zN.cell (p:=⟨w8.heap.size,k,none⟩) HS.out.lt).trans (qA HS.out k (by rw [hlen];exact hlt));have hm:=HM.out k hlt;obtain ⟨T,hT⟩:=ae (tabs09.getD k []);rw [<-hT] at hh hm;have HT:=ab hT;obtain ⟨ao,cap,hv,_⟩:=id hh.view;rw [hv] at hh AX;have HH:=ab hh;clear hh hv hT
   cases Bb:aL T r with
   |true =>
    have he:=kM r (bi r) tabs09 1 k hlt HN.out (by rw [<-HT.out];exact Bb);have HE:=ab he;clear he
    go_wp2_with fail
    refine (iH _ T r _ HH.out hm r0 r1).mono ?_;rintro e wx ⟨rfl,bx⟩;have Ax:=hl.trans ((zN.trans (bx.mono zN.size)).mono hl.size);go_wp2;go_ret;exact ⟨al (by rw [HE.out];simp;try omega),Ax⟩
   |false =>
    have FC:=ab (show ∀ j,j<k+1->aL (tabs09.getD j []) r=false from fun j hj=>by
     by_cases h:j=k
     ·subst h;rw [<-HT.out];exact Bb
     ·exact HN.out j (by omega))
    go_wp2_with fail
    refine (iH _ T r _ HH.out hm r0 r1).mono ?_;rintro e wx ⟨rfl,bx⟩;have BR:=zN.trans (bx.mono zN.size);go_wp2
    go_roundw
    case rel=>exact ⟨k+1,by omega,by go_num,FC,BR⟩
    case measure=>simp [intOf];omega
  ·have he:=je r (bi r) tabs09 1 (fun j hj=>HN.out j (Nat.lt_of_lt_of_le hj (show 8<=k by omega)));have HE:=ab he;clear he;have Ax:=hl.trans (zN.mono hl.size)
   go_wp2_with fail
   refine (nT r _ r0 r1).mono ?_;rintro e w' ⟨rfl,rfl⟩;go_wp2;go_ret;exact ⟨al (by rw [HE.out];try rfl),Ax⟩
theorem xO(a r:Int):aL [(a,a)] r=decide (r=a):=by
 rw [mB]
 by_cases h:r=a
 ·subst h;simp
 ·rw [decide_eq_false h]
  by_cases h1:a<=r
  ·rw [decide_eq_false (show ¬ r<=a by omega)];simp
  ·rw [decide_eq_false h1];rfl
def kL:List (Int × Int):=[(13,13),(10,10),(8205,8205),(127462,127487)]
theorem lh{r:Int}(h:aL kL r=false):r≠13/\r≠10/\r≠8205/\¬ (127462<=r/\r<=127487):=by
 simp [aL,kL] at h
 omega
theorem zo:apart tControl kL=true:=by decide +kernel
theorem zp:apart tExtend kL=true:=by decide +kernel
theorem zq:apart tSpacing tPrepend=true:=by decide +kernel
theorem xP(r:Int):ofI tabs09 1 r (bi r)=bQ r:=by
 simp only [tabs09,ofI,tCR,tLF,tZWJ,xO,tRI,mB];unfold bQ bm
 by_cases Et:r=13
 ·simp [Et]
 by_cases h10:r=10
 ·simp [h10]
 simp only [Et,h10,decide_false,Bool.false_eq_true,if_false]
 cases hc:aL tControl r with
 |true =>
  obtain ⟨_,_,h1,h2⟩:=lh (jP zo hc)
  simp [h1,h2]
 |false =>
  cases he:aL tExtend r with
  |true =>
   obtain ⟨_,_,h1,h2⟩:=lh (jP zp he)
   simp [h1,h2]
  |false =>
   by_cases hz:r=8205
   ·simp [hz]
   by_cases hr:127462<=r/\r<=127487
   ·simp [hz,hr]
   ·have LC:¬ ((decide (127462<=r) && decide (r<=127487))=true):=by simpa using hr
    simp only [hz,hr,LC,decide_false,Bool.false_eq_true,if_false]
    cases hs:aL tSpacing r with
    |true=>rw [jP zq hs];simp
    |false =>
     cases hp:aL tPrepend r <;> simp
theorem uG(r:Int):ofI tabs11 1 r 0=du r:=rfl
theorem uH(r:Int):ofI tabs12 1 r 0=eL r:=rfl
theorem sz(r:Int)(w:World)(r0 : -2147483648<=r)(r1:r<=2147483647):Calls Tryz.prog 65 #[.int .i32 r] w (Gives w (.bool (aL tPict r))):=by
 go_enter Tryz.func65,Tryz.ntmps65
 go_wp2_with fail
 refine (oN _).mono ?_;rintro e w1 ⟨v1,rfl,h1,b1⟩
 go_wp2_with fail
 refine (iH _ tPict r _ h1 (by rw [fK];decide) r0 r1).mono ?_;rintro e w2 ⟨rfl,b2⟩;go_wp2;go_ret;exact ⟨af,b1.trans (b2.mono b1.size)⟩
def gJ(r:Int):Value:=.agg #[.int .i64 (bQ r),.bool (aL tPict r),.int .i64 (du r),.int .i64 (eL r)]
theorem oM(w:World)(g:Nat)(a b c d:Value):But g w.heap.size w ((((w.setCell ⟨g,0,none⟩ a).setCell ⟨g,1,none⟩ b).setCell ⟨g,2,none⟩ c).setCell ⟨g,3,none⟩ d) :=
 ((((But.refl _ _ _).set 0 _).set 1 _).set 2 _).set 3 _
theorem sy(r:Int)(w:World):Calls Tryz.prog 149 #[.int .i32 r] w (Gives w (gJ r)):=by
 have KB:=Has.new w [Value.int .i64 0,.bool false,.int .i64 0,.int .i64 0] 33;have HR:=ab KB;have hl0:Below w.heap.size w (w.alloc (.cells [Value.int .i64 0,.bool false,.int .i64 0,.int .i64 0].toArray 33)):=zI _ _;have HL:=ab hl0;clear KB hl0
 go_enter Tryz.func149,Tryz.ntmps149
 go_wp2_with fail
 refine (xR r _).mono ?_;rintro e w1 ⟨rfl,b1⟩
 go_wp2_with fail
 refine (uJ r _).mono ?_;rintro e w2 ⟨rfl,b2⟩
 go_wp2_with fail
 refine (xQ r _).mono ?_;rintro e w3 ⟨rfl,b3⟩
 go_wp2_with fail
 refine (uI r _).mono ?_;rintro e w4 ⟨rfl,b4⟩;have hb:=b1.trans ((b2.trans ((b3.trans (b4.mono b3.size)).mono b2.size)).mono b1.size);have hr4:=HR.out.below hb HR.out.lt;have hl4:=HL.out.trans (hb.mono HL.out.size);have g0:=hr4.cell 0 _ rfl;have g1:=hr4.cell 1 _ rfl;have g2:=hr4.cell 2 _ rfl;have g3:=hr4.cell 3 _ rfl;have f0:=hr4.free 0;have f1:=hr4.free 1;have f2:=hr4.free 2;have f3:=hr4.free 3;have hlt:=hr4.lt;have hbl:=fun x y z u=>hl4.trans ((oM w4 w.heap.size x y z u).below hl4.size (Nat.le_refl _))
 have A0:=ab hbl;clear hb hr4 hl4 hbl b1 b2 b3 b4 HR HL;go_wp2;exact bodyPost_ret (v:=gJ r) (by simp [results,Tryz.results149,go_sem,gJ,g0,g1,g2,g3]) rfl ⟨rfl,A0.out _ _ _ _⟩
theorem lg(r:Int)(w:World)(r0 : -2147483648<=r)(r1:r<=2147483647):Calls Tryz.prog 13 #[.int .i32 r] w (Gives w (gJ r)):=by
 have KB:=Has.new w [Value.int .i64 0,.bool false,.int .i64 0,.int .i64 0] 33;have HR:=ab KB;have hl0:Below w.heap.size w (w.alloc (.cells [Value.int .i64 0,.bool false,.int .i64 0,.int .i64 0].toArray 33)):=zI _ _;have HL:=ab hl0;clear KB hl0
 go_enter Tryz.func13,Tryz.ntmps13
 go_wp2_with fail
 refine (sD r _ r0 r1).mono ?_;rintro e w1 ⟨rfl,b1⟩;rw [xP r]
 go_wp2_with fail
 refine (sz r _ r0 r1).mono ?_;rintro e w2 ⟨rfl,b2⟩
 go_wp2_with fail
 refine (sB r _ r0 r1).mono ?_;rintro e w3 ⟨rfl,b3⟩;rw [uG r]
 go_wp2_with fail
 refine (sC r _ r0 r1).mono ?_;rintro e w4 ⟨rfl,b4⟩;rw [uH r];have hb:=b1.trans ((b2.trans ((b3.trans (b4.mono b3.size)).mono b2.size)).mono b1.size);have hr4:=HR.out.below hb HR.out.lt;have hl4:=HL.out.trans (hb.mono HL.out.size);have g0:=hr4.cell 0 _ rfl;have g1:=hr4.cell 1 _ rfl;have g2:=hr4.cell 2 _ rfl;have g3:=hr4.cell 3 _ rfl;have f0:=hr4.free 0;have f1:=hr4.free 1;have f2:=hr4.free 2;have f3:=hr4.free 3;have hlt:=hr4.lt;have hbl:=fun x y z u=>hl4.trans ((oM w4 w.heap.size x y z u).below hl4.size (Nat.le_refl _))
 have A0:=ab hbl;clear hb hr4 hl4 hbl b1 b2 b3 b4 HR HL;go_wp2;exact bodyPost_ret (v:=gJ r) (by simp [results,Tryz.results13,go_sem,gJ,g0,g1,g2,g3]) rfl ⟨rfl,A0.out _ _ _ _⟩
def bh(r:Int):Pr:=⟨bQ r,aL tPict r,du r,eL r⟩
def aq(xs:List Int):List Pr:=xs.map bh
theorem mz{xs:List Int}{k:Nat}(h:k<xs.length):(aq xs).getD k Pr.none=bh (xs.getD k 0):=by
 have h':k<(aq xs).length:=by simpa [aq] using h
 simp [List.getD,List.getElem?_eq_getElem h,aq]
theorem cS(xs:List Int):(aq xs).length=xs.length:=by simp [aq]
theorem mA:(Tryz.prog.info? 33).map (fun i=>(i.zero,i.size,i.bytes))=some (some (.agg #[.int .i64 0,.bool false,.int .i64 0,.int .i64 0]),4,32):=by kernel_rfl
def toI(l:List Nat):List Int:=l.map fun (k:Nat)=>(k:Int)
theorem xN(l:List Nat):(toI l).length=l.length:=by simp [toI]
theorem yO{l:List Nat}{i:Nat}(h:i<l.length):(toI l).getD i 0=(l[i]:Nat):=by
 simp [List.getD,toI,List.getElem?_eq_getElem h]
def bI(xs:List Int):Prop:=∀ i,i<xs.length -> -2147483648<=xs.getD i 0/\xs.getD i 0<=2147483647
def uE(w:World)(e:TypeId)(l:List Int)(en:Ending)(w':World):Prop:=∃ v n,en=.returned v/\w'.ownsRow w.heap.size e 1 v n (l.map (Value.int .i64))/\Below w.heap.size w w'
theorem oK:(Tryz.prog.info? 3).map (fun i=>(i.zero,i.size,i.bytes))=some (some (.int .i64 0),1,8):=by kernel_rfl
theorem uF(l:List Nat)(k:Nat):(toI (l++[k])).map (Value.int .i64)=(toI l).map (Value.int .i64)++[.int .i64 (k:Int)]:=by simp [toI]
theorem sx{w:World}{B B' e size:Nat}{v:Value}{n:Nat}{xs:List Value}(h:w.ownsRow B e size v n xs)(hb:B'<=B):w.ownsRow B' e size v n xs:=by
 refine ⟨h.1,?_⟩
 rcases h.2 with hn | ⟨g,cap,cur,rfl,hB,rest⟩
 ·exact .inl hn
 ·exact .inr ⟨g,cap,cur,rfl,Nat.le_trans hb hB,rest⟩
theorem qv(v:Value)(xs:List Int)(w:World)(hx:Held .i32 w v xs)(hn:xs.length<=1000000)(hr:bI xs) :
  Calls Tryz.prog 209 #[v] w fun e w'=>∃ v',e=.returned v'/\HeldP w' v' (aq xs)/\Below w.heap.size w w':=by
 obtain ⟨ao,ca,rfl,hc⟩:=hx.view;have HC:=ab hc;have HR:=ab hr;clear hc hx hr
 go_enter Tryz.func209,Tryz.ntmps209
 go_wp2
 go_loopw [3,4] (fun p i wr=>∃ k:Nat,k<=xs.length/\i=.int .i64 k/\wr.ownsRow w.heap.size 33 4 p k (bV ((aq xs).take k))/\Below w.heap.size w wr) (fun _ i _=>xs.length - (intOf i).toNat)
 case atStart=>exact ⟨0,Nat.zero_le _,rfl,World.ownsRow_nil _ _ _ _,Below.refl _ _⟩
 case round =>
  obtain ⟨k,hk,rfl,hown,zN⟩:=hrel
  by_cases hlt:k<xs.length
  ·obtain ⟨b,off,rfl,hb,AX⟩:=HC.out k hlt;have AX:=(zN.cell (p:=⟨b,off+k,none⟩) hb).trans AX;obtain ⟨r0,r1⟩:=HR.out k hlt;have CN:=oV (aq xs) k (by rw [cS];exact hlt);rw [mz hlt] at CN;obtain ⟨r,hr⟩:=ae (xs.getD k 0);rw [<-hr] at AX r0 r1 CN;have F6:=ab CN;have HOW:=ab hown;clear hr CN hown
   go_wp2_with fail
   refine (lg r _ r0 r1).mono ?_;rintro e w1 ⟨rfl,b1⟩;have hown1:=aN HOW.out b1;have hb1:=zN.trans (b1.mono zN.size);rw [show gJ r=.agg #[.int .i64 (bQ r),.bool (aL tPict r),.int .i64 (du r),.int .i64 (eL r)] from rfl];clear AX
   go_wp2_with (at_builtin;refine fe w1 rfl (.tmp 11) (.tmp 17) 28 rfl w.heap.size 33 (.agg #[.int .i64 0,.bool false,.int .i64 0,.int .i64 0]) 4 32 Tryz.underlying28 mA rfl (by decide) u3 k (bV ((aq xs).take k)) rfl hown1 [.int .i64 (bQ r),.bool (aL tPict r),.int .i64 (du r),.int .i64 (eL r)] 1 1 rfl rfl (by intro u hu;simp at hu;rcases hu with rfl | rfl | rfl | rfl <;> rfl) (by omega) (by omega) hb1.size ?_)
   intro v' w' hown' hb';have hown2:w'.ownsRow w.heap.size 33 4 v' (k+1) (bV ((aq xs).take (k+1))):=by rw [F6.out];exact hown'
   have Ma:=hb1.trans hb';clear hown1 hown';go_wp2
   go_roundw
   case rel=>exact ⟨k+1,by omega,by go_num,hown2,Ma⟩
   case measure=>simp [intOf] <;> omega
  ·obtain rfl:k=xs.length:=by omega
   rw [List.take_of_length_le (by rw [cS];exact Nat.le_refl _)] at hown;have HP:=ab (ix hown);clear hown;go_wp2;go_ret;exact ⟨_,rfl,HP.out,zN⟩
theorem oL(v:Value)(xs:List Int)(w:World)(hx:Held .i32 w v xs)(hn:xs.length<=1000000)(hr:bI xs) :
  Calls Tryz.prog 158 #[v] w (uE w 3 (toI (aV (jR (aq xs)) xs.length))):=by
 obtain ⟨ao,ca,rfl,_⟩:=hx.view;have HX:=ab hx;have HR:=ab hr;clear hx hr
 go_enter Tryz.func158,Tryz.ntmps158
 go_wp2_with fail
 refine (qv _ xs _ HX.out hn HR.out).mono ?_;rintro e w1 ⟨v1,rfl,DJ,b1⟩;obtain ⟨po,pcap,rfl,_⟩:=id DJ;have DT:=ab DJ;clear DJ;rw [cS];go_wp2
 go_loopw [3,5] (fun p i wr=>∃ k:Nat,k<=xs.length/\i=.int .i64 k/\wr.ownsRow w1.heap.size 3 1 p (aV (jR (aq xs)) k).length ((toI (aV (jR (aq xs)) k)).map (Value.int .i64))/\Below w1.heap.size w1 wr) (fun _ i _=>xs.length - (intOf i).toNat)
 case atStart=>exact ⟨0,Nat.zero_le _,rfl,World.ownsRow_nil _ _ _ _,Below.refl _ _⟩
 case round =>
  obtain ⟨k,hk,rfl,hown,zN⟩:=hrel
  by_cases hlt:k<xs.length
  ·have hj:=qB _ (aq xs) k wr (DT.out.below zN) (by rw [cS];exact hlt) (by rw [cS];exact hn);rw [cS] at hj;have HJ:=ab hj;have HOW:=ab hown;have BV:=lf (jR (aq xs)) k;have hsu:=gI (jR (aq xs)) k;clear hj hown
   go_wp2_with fail
   refine HJ.out.mono ?_;rintro e w2 ⟨rfl,b2⟩;have hown2:=aN HOW.out b2;have hb2:=zN.trans (b2.mono zN.size)
   cases hj:jR (aq xs) k with
   |true =>
    rw [hj] at hsu;simp only [if_true,List.append_nil] at hsu;rw [<-hsu] at hown2;have HOW2:=ab hown2;clear hown2 hj hsu;go_wp2
    go_roundw
    case rel=>exact ⟨k+1,by omega,by go_num,HOW2.out,hb2⟩
    case measure=>simp [intOf] <;> omega
   |false =>
    rw [hj] at hsu;simp only [Bool.false_eq_true,if_false] at hsu;have HSU:=ab hsu;have hlen:(aV (jR (aq xs)) (k+1)).length=(aV (jR (aq xs)) k).length+1:=by rw [hsu];simp
    have HL:=ab hlen;clear hj hsu hlen
    go_wp2_with (at_builtin;refine bZ w2 rfl (.tmp 18) (.tmp 20) 76 rfl w1.heap.size 3 (.int .i64 0) 8 Tryz.underlying76 oK rfl u3 (aV (jR (aq xs)) k).length ((toI (aV (jR (aq xs)) k)).map (Value.int .i64)) rfl hown2 [.int .i64 (k:Int)] 1 1 rfl rfl (by intro u hu;simp at hu;rcases hu with rfl <;> rfl) (by omega) (by omega) hb2.size ?_)
    intro v' w' hown' hb';have BX:w'.ownsRow w1.heap.size 3 1 v' (aV (jR (aq xs)) (k+1)).length ((toI (aV (jR (aq xs)) (k+1))).map (Value.int .i64)):=by rw [HL.out,HSU.out,uF];exact hown'
    have hb3:=hb2.trans hb';clear hown2 hown';go_wp2
    go_roundw
    case rel=>exact ⟨k+1,by omega,by go_num,BX,hb3⟩
    case measure=>simp [intOf] <;> omega
  ·obtain rfl:k=xs.length:=by omega
   have HO:=ab (sx hown b1.size);have Ax:=b1.trans (zN.mono b1.size);clear hown;go_wp2;go_ret;exact ⟨_,_,rfl,HO.out,Ax⟩
section
attribute [local go_sem] Oper.semAt_some
theorem kK(xs:List Pr):jR xs 0=false:=by
 rw [lq]
 simp [cz]
structure Cu where
 p:Nat × Nat
 v:Value
def XCu(xs:List Int)(lo hi:Nat)(x:Cu)(W:World):Prop:=∃ g,x.v=.slice (some ⟨g,x.p.1,none⟩) (x.p.2 - x.p.1) (x.p.2 - x.p.1)/\lo<=g/\g<hi/\g<W.heap.size/\x.p.1<x.p.2/\x.p.2<=xs.length/\∀ i,i<xs.length->W.cell? ⟨g,i,none⟩=some (.int .i32 (xs.getD i 0))
def clS(xs:List Int):List (Nat × Nat):=fb (jR (aq xs)) xs.length
end
section
attribute [local go_sem] Oper.semAt_some
section
variable {P : Program} {F : Fence} {nf : Nat} {α : Type} {E : Elem α} {Z : an} {w : World} {v u : Value} {L M : List α} {B : Nat} {ty : TypeId}
end
end
section
attribute [local go_sem] Oper.semAt_some
def rowE:Elem (List Int):=slE (aE .i32)
theorem xM:(Tryz.prog.info? 27).map (fun i=>(i.zero,i.size,i.bytes))=some (some (.slice none 0 0),rowE.size,24):=by kernel_rfl
def rI(w:World)(L:List (List Int))(e:Ending)(w':World):Prop:=∃ v',e=.returned v'/\OwnE rowE (fun b=>w.heap.size<=b) w' w.heap.size 27 v' L/\Below w.heap.size w w'
def bj(xs:List Int):List (List Int):=(clS xs).map (bu xs)
theorem _root_.Go.Proofs.YtoeggiplcaegoaaGreatDoor.HeldE.zoned{α:Type}{E:Elem α}{Z Y:an}{w:World}{v:Value}{L:List α}(h:HeldE E Z w v L)(hy:∀ b,b<w.heap.size->Z b->Y b):HeldE E Y w v L:=h.zone hy
theorem XCu.held{xs:List Int}{lo hi:Nat}{x:Cu}{W:World}(h:XCu xs lo hi x W):Held .i32 W x.v (bu xs x.p):=by
 obtain ⟨g,hv,h1,h2,h3,h4,h5,h6⟩:=h;have hl:=fc xs x.p (Nat.le_of_lt h4) h5;rw [hv,<-hl];refine hJ h3 fun i hi=>?_
 rw [hl] at hi;rw [h6 _ (by omega)]
 congr 2
 unfold bu
 simp [List.getD,List.getElem?_take,hi,List.getElem?_drop]
theorem XCu.upd{xs:List Int}{lo hi:Nat}{x:Cu}{W W':World}{S:an}(h:XCu xs lo hi x W)(hu:Upd S W W')(hs:∀ b,lo<=b->b<hi->¬ S b):XCu xs lo hi x W':=by
 obtain ⟨g,hv,h1,h2,h3,h4,h5,h6⟩:=h;exact ⟨g,hv,h1,h2,Nat.lt_of_lt_of_le h3 hu.size,h4,h5,fun i hi=>(hu.keep.cell h3 (hs g h1 h2)).trans (h6 i hi)⟩
end
theorem qr{xs:List Int}{i:Nat}(hi:i<(aV (jR (aq xs)) xs.length).length):∃ a b:Nat,(toI (aV (jR (aq xs)) xs.length)++[(xs.length:Int)]).getD i 0=(a:Int)/\(toI (aV (jR (aq xs)) xs.length)++[(xs.length:Int)]).getD (i+1) 0=(b:Int)/\(clS xs).getD i (0,0)=(a,b)/\a<b/\b<=xs.length:=by
 have h0:=sw (jR (aq xs)) (kK _) xs.length i hi;have hl:=iG (jR (aq xs)) (kK _) xs.length;have hm:(clS xs).getD i (0,0) ∈ clS xs:=by
  unfold clS;rw [List.getD,List.getElem?_eq_getElem (by omega)];exact List.getElem_mem _
 have Bq:=jN _ _ _ hm;have e:toI (aV (jR (aq xs)) xs.length)++[(xs.length:Int)]=toI (aV (jR (aq xs)) xs.length++[xs.length]):=by simp [toI]
 have hg:∀ k,k<(aV (jR (aq xs)) xs.length++[xs.length]).length->(toI (aV (jR (aq xs)) xs.length++[xs.length])).getD k 0=(((aV (jR (aq xs)) xs.length++[xs.length]).getD k 0:Nat):Int):=fun k hk=>by
  rw [yO hk]
  simp [List.getD,List.getElem?_eq_getElem hk]
 have h1:(clS xs).getD i (0,0)=_:=h0;rw [h1] at Bq;refine ⟨_,_,?_,?_,h1,Bq.1,Bq.2⟩
 ·rw [e,hg i (by rw [List.length_append];omega)]
 ·rw [e,hg (i+1) (by rw [List.length_append,List.length_singleton];omega)]
theorem ss(xs:List Int)(i:Nat)(h:i<(clS xs).length):(bj xs).take (i+1)=(bj xs).take i++[bu xs ((clS xs).getD i (0,0))]:=by
 unfold bj;rw [List.take_succ_eq_append_getElem (by rw [List.length_map];exact h),List.getElem_map]
 simp [List.getD,List.getElem?_eq_getElem h]
theorem uC(xs:List Int):(bj xs).length=(aV (jR (aq xs)) xs.length).length:=by
 unfold bj;rw [List.length_map];exact iG _ (kK _) _
theorem mv(Z:an)(v:Value)(xs:List Int)(w:World)(hx0:HeldE (aE .i32) Z w v xs)(hn:xs.length<=1000000)(hr:bI xs):Calls Tryz.prog 90 #[v] w (rI w (bj xs)):=by
 have hx:=hx0.ints;obtain ⟨ao,ca,rfl,hmx,hmy,_⟩:=id hx0;have HX:=ab hx;have Jj:=ab hmy;have HST:=ab (oL _ xs w hx hn hr);obtain ⟨n,Es⟩:=ae (xs.length);have HN:=ab Es;have Gp:=ab (uC xs);have Nr:=ab (fun i h=>@qr xs i h);have EF:=ab (lf (jR (aq xs)) xs.length);obtain ⟨ST,hST⟩:=ae (aV (jR (aq xs)) xs.length);rw [<-hST] at HST Gp Nr EF;rw [<-Es] at HX HST hn hmx Nr EF ⊢;clear hx hx0 hr Es hST hmy
 go_enter Tryz.func90,Tryz.ntmps90
 go_wp2_with fail
 refine HST.out.mono ?_;rintro e w1 ⟨v1,k1,rfl,AA,b1⟩;have AA:=dH (Z:=fun b=>w.heap.size<=b) AA;have hb2:=zI w1 (.cells [.int .i64 (n:Int)].toArray 3);have AF:=AA.lt;have HU:=ab (show HeldE (aE .i64) (fun b=>w.heap.size<=b/\v1.ownBlock≠some b) (w1.alloc (.cells [.int .i64 (n:Int)].toArray 3)) (.slice (some ⟨w1.heap.size,0,none⟩) 1 1) [(n:Int)] from aO (Y:=fun _=>False) [.int .i64 (n:Int)] (n:Int) rfl (fun _ _ h=>h.elim) ⟨b1.size,fun e=>by have:=(AF _ e).2;omega⟩);have A4:=ab (AA.below hb2);have Ah:=ab (b1.trans (hb2.mono b1.size));have MT:(toI ST).length=ST.length:=xN ST;have FB:=ab MT;clear AA b1 hb2 AF MT
 go_wp2_with (at_builtin;refine aw (E:=aE .i64) (Z:=fun b=>w.heap.size<=b) rfl (.tmp 7) (.tmp 10) 76 rfl (.int .i64 0) 8 Tryz.underlying76 oK rfl (by decide) rfl rfl A4.out HU.out (by rw [FB.out];simp only [List.length_singleton];have:=EF.out;omega) (by rw [FB.out];simp only [List.length_singleton];have:=EF.out;omega) Ah.out.size ?_)
 intro v2 w2 Ap b2 _ _;have Ge:=(Ap.held (Z:=fun b=>w.heap.size<=b) (fun b h _=>h)).ints;obtain ⟨aa,cc,rfl,KS⟩:=Ge.view;have DQ:=ab KS;have HAT:=ab (show (toI ST++[(n:Int)]).length=ST.length+1 from by rw [List.length_append,FB.out];rfl);obtain ⟨m,hm⟩:=ae (ST.length);have HM:=ab hm;rw [HAT.out,<-hm] at DQ ⊢;have AM:=ab (Ah.out.trans b2);have hmn:m<=1000000:=by rw [hm];have:=EF.out;omega
 have HSP2:=ab (show ∀ i,i<m->_ from fun i h=>Nr.out i (by rw [<-hm];exact h));clear Ap b2 Ge KS HU A4 Ah hm HST;go_wp2
 go_loopw [3,5] (fun ov i wr=>∃ k:Nat,k<=m/\i=.int .i64 k/\OwnE rowE (fun b=>w2.heap.size<=b) wr w2.heap.size 27 ov ((bj xs).take k)/\Below w2.heap.size w2 wr) (fun _ i _=>m - (intOf i).toNat)
 case atStart=>exact ⟨0,Nat.zero_le _,rfl,OwnE.nil _ _ _ _ _,Below.refl _ _⟩
 case round =>
  obtain ⟨k,hk,rfl,hown,zN⟩:=hrel;obtain ⟨ov,Jx⟩:=ae (u3);rw [<-Jx] at hown ⊢;have HO:=ab hown;have z5:=ab zN;clear Jx hown zN
  by_cases hlt:k<m
  ·obtain ⟨a,b,ha,hb,hp,hab,FU⟩:=HSP2.out k hlt;obtain ⟨ba,oa,e1,hb1,c1⟩:=DQ.out k (by omega);obtain ⟨ba',oa',e2,_,c2⟩:=DQ.out (k+1) (by omega);subst e1
   cases e2
   rw [ha] at c1;rw [hb] at c2;obtain ⟨bx,ox,ex,BR,_⟩:=HX.out.spots 0 (by rw [<-HN.out];omega);subst ex;have c1:=(z5.out.cell (p:=⟨ba,oa+k,none⟩) hb1).trans c1;have c2:=(z5.out.cell (p:=⟨ba,oa+(k+1),none⟩) hb1).trans c2;have K6:=ab c1;have Nj:=ab c2;have FR:=ab (show ba<wr.heap.size from Nat.lt_of_lt_of_le hb1 z5.out.size);have Mz:=ab (ss xs k (by have h9:=Gp.out;have:=HM.out;unfold bj at h9;rw [List.length_map] at h9;omega));have hpl:((bj xs).take k).length<=1000000:=by rw [List.length_take];omega
   obtain ⟨CP,Pk⟩:=ae ((bj xs).take k);rw [hp,<-Pk] at Mz;rw [<-Pk] at HO hpl;have MI:=ab hpl;have AD:=ab HO.out.lt;have Hm:=ab z5.out.size;have HSLI:=ab (show ∀ w',Below w.heap.size w w'->Held .i32 w' (.slice (some ⟨bx,ox+a,none⟩) (b - a) (ca - a)) (bu xs (a,b)) from fun w' h=>by
    have hs:=(HX.out.below h).spots;have hl:=fc xs (a,b) (Nat.le_of_lt hab) (by rw [<-HN.out];exact FU);have hh:=hJ (k:=.i32) (w:=w') (b:=bx) (off:=ox+a) (cap:=ca - a) (xs:=bu xs (a,b)) (Nat.lt_of_lt_of_le BR h.size) (fun i hi=>by
     rw [hl] at hi;obtain ⟨b9,o9,e9,_,h9⟩:=hs (a+i) (by rw [<-HN.out];simp only at hi;omega)
     cases e9
     rw [Nat.add_assoc,h9]
     congr 2
     unfold bu;simp only at hi
     simp [List.getD,List.getElem?_take,hi,List.getElem?_drop])
    rw [hl] at hh;exact hh)
   have HSLN:=ab (show (bu xs (a,b)).length<=1000000/\0<(bu xs (a,b)).length from by rw [fc xs (a,b) (Nat.le_of_lt hab) (by rw [<-HN.out];exact FU)];simp only;omega);have Kz:=ab (AM.out.trans (z5.out.mono AM.out.size));have Nb:ca - a≠0:=by omega
   have hac2:((ca - a == 0)=false):=by rw [beq_eq_false_iff_ne];exact Nb
   have hz1:a<=b:=by omega
   have hz2:b<=ca:=by omega
   have hz3:(a:Int)<=b:=by omega
   have hz4:(b:Int)<=ca:=by omega
   have hne:ca≠a:=by omega
   have hkm:k<m+1:=by omega
   have hkm1:k+1<m+1:=by omega
   have KA:IntKind.i64.wrap ((k:Int)+1)=(k:Int)+1:=by rw [IntKind.wrap_i64];omega
   have hkmi:(k:Int)<(m:Int)+1:=by omega
   have hkmj:(k:Int)+1<(m:Int)+1:=by omega
   clear hp Pk hpl ha hb BR hb1 hmx;go_wp2;obtain ⟨Am,BU⟩ : ∃ EE:Nat->Value->World->Prop,EE=fun jj xx ww=>match jj with
     |0=>xx=ov
     |1=>(fun x w'=>∃ g9,x=.slice (some ⟨g9,0,none⟩) 0 0/\w'.ownsRow wr.heap.size 21 1 (.slice (some ⟨g9,0,none⟩) 0 0) 0 []) xx ww
     |2=>xx=.slice (some ⟨bx,ox,none⟩) n ca
     |3=>xx=.slice (some ⟨ba,oa,none⟩) (m+1) cc
     |4=>xx=.int .i64 (k:Int)
     |5=>xx=.pointer (some ⟨ba,oa+k,none⟩)
     |6=>xx=.int .i64 (a:Int)
     |7=>xx=.slice (some ⟨ba,oa,none⟩) (m+1) cc
     |8=>xx=.int .i64 (k:Int)
     |9=>xx=.int .i64 (k+1:Int)
     |10=>xx=.pointer (some ⟨ba,oa+(k+1),none⟩)
     |11=>xx=.int .i64 (b:Int)
     |12=>xx=.slice (some ⟨bx,ox+a,none⟩) (b - a) (ca - a)
     |13=>(fun x w'=>HeldE (aE .i32) (fun b=>wr.heap.size<=b) w' x (bu xs (a,b))) xx ww
     |14=>(fun x w'=>HeldE rowE (fun b=>wr.heap.size<=b) w' x [bu xs (a,b)]) xx ww
     |15=>(fun x w'=>OwnE rowE (fun b=>w2.heap.size<=b) w' w2.heap.size 27 x (CP++[bu xs (a,b)])) xx ww
     |16=>(fun x w'=>OwnE rowE (fun b=>w2.heap.size<=b) w' w2.heap.size 27 x (CP++[bu xs (a,b)])) xx ww
     |_=>True:=⟨_,rfl⟩
   have erg0:∀ xx ww,Am 0 xx ww=(xx=ov):=fun xx ww=>congrFun (congrFun (congrFun BU 0) xx) ww
   have erg1:∀ xx ww,Am 1 xx ww=((fun x w'=>∃ g9,x=.slice (some ⟨g9,0,none⟩) 0 0/\w'.ownsRow wr.heap.size 21 1 (.slice (some ⟨g9,0,none⟩) 0 0) 0 []) xx ww):=fun xx ww=>congrFun (congrFun (congrFun BU 1) xx) ww
   have erg2:∀ xx ww,Am 2 xx ww=(xx=.slice (some ⟨bx,ox,none⟩) n ca):=fun xx ww=>congrFun (congrFun (congrFun BU 2) xx) ww
   have erg3:∀ xx ww,Am 3 xx ww=(xx=.slice (some ⟨ba,oa,none⟩) (m+1) cc):=fun xx ww=>congrFun (congrFun (congrFun BU 3) xx) ww
   have erg4:∀ xx ww,Am 4 xx ww=(xx=.int .i64 (k:Int)):=fun xx ww=>congrFun (congrFun (congrFun BU 4) xx) ww
   have erg5:∀ xx ww,Am 5 xx ww=(xx=.pointer (some ⟨ba,oa+k,none⟩)):=fun xx ww=>congrFun (congrFun (congrFun BU 5) xx) ww
   have erg6:∀ xx ww,Am 6 xx ww=(xx=.int .i64 (a:Int)):=fun xx ww=>congrFun (congrFun (congrFun BU 6) xx) ww
   have erg7:∀ xx ww,Am 7 xx ww=(xx=.slice (some ⟨ba,oa,none⟩) (m+1) cc):=fun xx ww=>congrFun (congrFun (congrFun BU 7) xx) ww
   have erg8:∀ xx ww,Am 8 xx ww=(xx=.int .i64 (k:Int)):=fun xx ww=>congrFun (congrFun (congrFun BU 8) xx) ww
   have erg9:∀ xx ww,Am 9 xx ww=(xx=.int .i64 (k+1:Int)):=fun xx ww=>congrFun (congrFun (congrFun BU 9) xx) ww
   have erg10:∀ xx ww,Am 10 xx ww=(xx=.pointer (some ⟨ba,oa+(k+1),none⟩)):=fun xx ww=>congrFun (congrFun (congrFun BU 10) xx) ww
   have erg11:∀ xx ww,Am 11 xx ww=(xx=.int .i64 (b:Int)):=fun xx ww=>congrFun (congrFun (congrFun BU 11) xx) ww
   have erg12:∀ xx ww,Am 12 xx ww=(xx=.slice (some ⟨bx,ox+a,none⟩) (b - a) (ca - a)):=fun xx ww=>congrFun (congrFun (congrFun BU 12) xx) ww
   have erg13:∀ xx ww,Am 13 xx ww=((fun x w'=>HeldE (aE .i32) (fun b=>wr.heap.size<=b) w' x (bu xs (a,b))) xx ww):=fun xx ww=>congrFun (congrFun (congrFun BU 13) xx) ww
   have erg14:∀ xx ww,Am 14 xx ww=((fun x w'=>HeldE rowE (fun b=>wr.heap.size<=b) w' x [bu xs (a,b)]) xx ww):=fun xx ww=>congrFun (congrFun (congrFun BU 14) xx) ww
   have erg15:∀ xx ww,Am 15 xx ww=((fun x w'=>OwnE rowE (fun b=>w2.heap.size<=b) w' w2.heap.size 27 x (CP++[bu xs (a,b)])) xx ww):=fun xx ww=>congrFun (congrFun (congrFun BU 15) xx) ww
   have erg16:∀ xx ww,Am 16 xx ww=((fun x w'=>OwnE rowE (fun b=>w2.heap.size<=b) w' w2.heap.size 27 x (CP++[bu xs (a,b)])) xx ww):=fun xx ww=>congrFun (congrFun (congrFun BU 16) xx) ww
   obtain ⟨zM,zU⟩ : ∃ CC:Array Bool->World->Prop,CC=fun L8 w'=>Below w2.heap.size w2 w'/\(Mix.one L8 15=0->OwnE rowE (fun b=>w2.heap.size<=b) w' w2.heap.size 27 ov CP/\Below wr.heap.size wr w')/\wr.heap.size<=w'.heap.size:=⟨_,rfl⟩
   have krg:∀ i L w,i≠15 ->  zM L w->zM (L.setIfInBounds i true) w:=by
    intro i L w q15 h;rw [zU] at h ⊢;simp only [Mix.one_ne q15];exact h
   obtain ⟨Ar,z7⟩ : ∃ XX:Nat->World->World->Prop,XX=fun kk ww1 ww2=>if kk=15 then (fun x y=>Upd (fun b=>ov.ownBlock=some b) x y) ww1 ww2 else (fun x y=>Below x.heap.size x y) ww1 ww2:=⟨_,rfl⟩
   have xrg:∀ {k:Nat} (w:World),Ar k w w:=by
    intro k w;rw [z7];show if k=15 then _ else _
    split
    ·exact Upd.refl _ _
    ·exact Below.refl _ _
   have crg:zM (Array.replicate 17 false) wr.drew:=by rw [zU];exact ⟨z5.out.drew,fun _=>⟨HO.out,(Below.refl _ _).drew⟩,Nat.le_refl _⟩
   have brg:∀ L w w1,zM L w->Below w.heap.size w w1->zM L w1:=by
    intro L w w1 h hb;rw [zU] at h ⊢
    (obtain ⟨q1,q2,q3⟩:=h;exact ⟨q1.trans (hb.mono q1.size),fun e=>⟨(q2 e).1.below hb,(q2 e).2.trans (hb.mono (q2 e).2.size)⟩,Nat.le_trans q3 hb.size⟩)
   have xbrg:∀ {k:Nat} (w w1:World),Below w.heap.size w w1->Ar k w w1:=by
    intro k w w1 hb;rw [z7];show if k=15 then _ else _
    split
    ·exact Upd.ofBelow hb
    ·exact hb
   have Al:=ab brg;have Ab:Hid (∀ {k:Nat} (w w1:World),Below w.heap.size w w1->Ar k w w1):=@xbrg;clear brg xbrg;have JD:=ab BU;clear BU;have zZ:=ab krg;have Ac:Hid (∀ {k:Nat} (w:World),Ar k w w):=@xrg;have Ao:=ab crg;have zK:=ab zU;have z8:=ab z7;have zR:=ab erg0;have zQ:=ab erg1;have zS:=ab erg2;have zT:=ab erg3;have zW:=ab erg4;have zV:=ab erg5;have zY:=ab erg6;have zP:=ab erg7;have zX:=ab erg8;have z4:=ab erg9;have zO:=ab erg10;have z6:=ab erg11;have z9:=ab erg12;have Aa:=ab erg13;have Ag:=ab erg14;have Ae:=ab erg15;have Ai:=ab erg16;clear krg xrg crg zU z7 erg0 erg1 erg2 erg3 erg4 erg5 erg6 erg7 erg8 erg9 erg10 erg11 erg12 erg13 erg14 erg15 erg16
   go_wp2_with fail
   refine RegX.regionF Am zM Ar ?_ (by kernel_rfl) (by kernel_rfl) (by kernel_rfl) Ao.out (fun Gl zJ=>?_)
   ·intro ii jj x w w1 Ey hr hx h;rw [z8.out] at hx
    by_cases hi:ii=15
    ·subst hi;simp only [if_pos] at hx
     match jj with
     |0=>rw [zR.out] at h ⊢;exact h
     |1=>rw [zQ.out] at h ⊢;(first | exact (HeldE.upd h hx (fun b hb e=>by have:=(AD.out b e).2;omega)) | (obtain ⟨g9,e9,h9⟩:=h;exact ⟨g9,e9,hx.keep.own h9 (fun b hb e=>by have:=(AD.out _ e).2;have:=(h9.lt _ hb).1;omega)⟩))
     |2=>rw [zS.out] at h ⊢;exact h
     |3=>rw [zT.out] at h ⊢;exact h
     |4=>rw [zW.out] at h ⊢;exact h
     |5=>rw [zV.out] at h ⊢;exact h
     |6=>rw [zY.out] at h ⊢;exact h
     |7=>rw [zP.out] at h ⊢;exact h
     |8=>rw [zX.out] at h ⊢;exact h
     |9=>rw [z4.out] at h ⊢;exact h
     |10=>rw [zO.out] at h ⊢;exact h
     |11=>rw [z6.out] at h ⊢;exact h
     |12=>rw [z9.out] at h ⊢;exact h
     |13=>rw [Aa.out] at h ⊢;(first | exact (HeldE.upd h hx (fun b hb e=>by have:=(AD.out b e).2;omega)) | (obtain ⟨g9,e9,h9⟩:=h;exact ⟨g9,e9,hx.keep.own h9 (fun b hb e=>by have:=(AD.out _ e).2;have:=(h9.lt _ hb).1;omega)⟩))
     |14=>rw [Ag.out] at h ⊢;(first | exact (HeldE.upd h hx (fun b hb e=>by have:=(AD.out b e).2;omega)) | (obtain ⟨g9,e9,h9⟩:=h;exact ⟨g9,e9,hx.keep.own h9 (fun b hb e=>by have:=(AD.out _ e).2;have:=(h9.lt _ hb).1;omega)⟩))
     |15=>exact absurd rfl Ey
     |16=>exact absurd (hr.symm.trans (show Reg.reach _ 6 16 15=true from by kernel_rfl)) (by decide)
     |jj+17=>rw [JD.out];trivial
    ·simp only [if_neg hi] at hx
     match jj with
     |0=>rw [zR.out] at h ⊢;exact h
     |1=>rw [zQ.out] at h ⊢;(first | exact HeldE.below h hx | exact OwnE.below h hx | (obtain ⟨g9,e9,h9⟩:=h;exact ⟨g9,e9,aN h9 hx⟩))
     |2=>rw [zS.out] at h ⊢;exact h
     |3=>rw [zT.out] at h ⊢;exact h
     |4=>rw [zW.out] at h ⊢;exact h
     |5=>rw [zV.out] at h ⊢;exact h
     |6=>rw [zY.out] at h ⊢;exact h
     |7=>rw [zP.out] at h ⊢;exact h
     |8=>rw [zX.out] at h ⊢;exact h
     |9=>rw [z4.out] at h ⊢;exact h
     |10=>rw [zO.out] at h ⊢;exact h
     |11=>rw [z6.out] at h ⊢;exact h
     |12=>rw [z9.out] at h ⊢;exact h
     |13=>rw [Aa.out] at h ⊢;(first | exact HeldE.below h hx | exact OwnE.below h hx | (obtain ⟨g9,e9,h9⟩:=h;exact ⟨g9,e9,aN h9 hx⟩))
     |14=>rw [Ag.out] at h ⊢;(first | exact HeldE.below h hx | exact OwnE.below h hx | (obtain ⟨g9,e9,h9⟩:=h;exact ⟨g9,e9,aN h9 hx⟩))
     |15=>rw [Ae.out] at h ⊢;(first | exact HeldE.below h hx | exact OwnE.below h hx | (obtain ⟨g9,e9,h9⟩:=h;exact ⟨g9,e9,aN h9 hx⟩))
     |16=>rw [Ai.out] at h ⊢;(first | exact HeldE.below h hx | exact OwnE.below h hx | (obtain ⟨g9,e9,h9⟩:=h;exact ⟨g9,e9,aN h9 hx⟩))
     |jj+17=>rw [JD.out];trivial
   simp only [Reg.frame,Reg.dsts,List.map_cons,List.map_nil,Mix.put_lit,List.set_cons_succ,List.set_cons_zero,Nat.zero_add,Nat.reduceAdd] at zJ;refine ⟨?_,?_⟩
   ·refine ⟨?_,?_,?_,?_,?_,?_,?_,?_,?_,?_,?_,?_,?_,?_,?_,?_,?_,trivial⟩
    ·intro Lq wq xq hh;have d16:=hh.old 16 (by kernel_rfl);simp only [zJ,d16];clear d16;refine .inl ⟨rfl,?_⟩;unfold Reg.upon;have hk:=zZ.out 0 Lq wq (by decide)  hh.cls;have hx:Ar 0 wq wq:=Ac.out wq;have he:Am 0 (ov) wq:=by rw [zR.out]
     have HK:=ab (And.intro hk (And.intro he hx));clear hk hx he;go_simp;exact HK.out
    ·intro Lq wq xq hh;simp only [zJ];refine .inl ⟨rfl,?_⟩;unfold Reg.upon;go_simp;have hc:zM Lq wq:=hh.cls;rw [zK.out] at hc;have hb1:=zI wq (.cells #[] 21);refine ⟨zZ.out 1 Lq _ (by decide) (Al.out Lq wq _ hh.cls hb1),?_,Ab.out wq _ hb1⟩;rw [zQ.out];exact ⟨_,rfl,World.ownsRow_lit wq #[] 0 hc.2.2 (by decide) rfl⟩
    ·intro Lq wq xq hh;simp only [zJ];refine .inl ⟨rfl,?_⟩;unfold Reg.upon;have hk:=zZ.out 2 Lq wq (by decide)  hh.cls;have hx:Ar 2 wq wq:=Ac.out wq;have he:Am 2 (.slice (some ⟨bx,ox,none⟩) n ca) wq:=by rw [zS.out]
     have HK:=ab (And.intro hk (And.intro he hx));clear hk hx he;go_simp;exact HK.out
    ·intro Lq wq xq hh;simp only [zJ];refine .inl ⟨rfl,?_⟩;unfold Reg.upon;have hk:=zZ.out 3 Lq wq (by decide)  hh.cls;have hx:Ar 3 wq wq:=Ac.out wq;have he:Am 3 (.slice (some ⟨ba,oa,none⟩) (m+1) cc) wq:=by rw [zT.out]
     have HK:=ab (And.intro hk (And.intro he hx));clear hk hx he;go_simp;exact HK.out
    ·intro Lq wq xq hh;simp only [zJ];refine .inl ⟨rfl,?_⟩;unfold Reg.upon;have hk:=zZ.out 4 Lq wq (by decide)  hh.cls;have hx:Ar 4 wq wq:=Ac.out wq;have he:Am 4 (.int .i64 (k:Int)) wq:=by rw [zW.out]
     have HK:=ab (And.intro hk (And.intro he hx));clear hk hx he;go_simp;exact HK.out
    ·intro Lq wq xq hh;have d3:Am 3 (xq 3) wq:=hh.val 3 (by kernel_rfl) (by kernel_rfl);rw [zT.out] at d3;have d4:Am 4 (xq 4) wq:=hh.val 4 (by kernel_rfl) (by kernel_rfl);rw [zW.out] at d4;simp only [zJ,d3,d4];clear d3 d4;refine .inl ⟨rfl,?_⟩;unfold Reg.upon;have hk:=zZ.out 5 Lq wq (by decide)  hh.cls;have hx:Ar 5 wq wq:=Ac.out wq;have he:Am 5 (.pointer (some ⟨ba,oa+k,none⟩)) wq:=by rw [zV.out]
     have HK:=ab (And.intro hk (And.intro he hx));clear hk hx he;go_simp;exact HK.out
    ·intro Lq wq xq hh;have d5:Am 5 (xq 5) wq:=hh.val 5 (by kernel_rfl) (by kernel_rfl);rw [zV.out] at d5;simp only [zJ,d5];clear d5;refine .inl ⟨rfl,?_⟩;unfold Reg.upon;have hc:zM Lq wq:=hh.cls;rw [zK.out] at hc;have q1:=((hc.2.1 (Mix.one_un (hh.notYet 15 (by kernel_rfl)))).2.cell (p:=⟨ba,oa+k,none⟩) FR.out).trans K6.out;clear hc;have hk:=zZ.out 6 Lq wq (by decide)  hh.cls;have hx:Ar 6 wq wq:=Ac.out wq;have he:Am 6 (.int .i64 (a:Int)) wq:=by rw [zY.out]
     have HK:=ab (And.intro hk (And.intro he hx));clear hk hx he;go_simp;exact HK.out
    ·intro Lq wq xq hh;simp only [zJ];refine .inl ⟨rfl,?_⟩;unfold Reg.upon;have hk:=zZ.out 7 Lq wq (by decide)  hh.cls;have hx:Ar 7 wq wq:=Ac.out wq;have he:Am 7 (.slice (some ⟨ba,oa,none⟩) (m+1) cc) wq:=by rw [zP.out]
     have HK:=ab (And.intro hk (And.intro he hx));clear hk hx he;go_simp;exact HK.out
    ·intro Lq wq xq hh;simp only [zJ];refine .inl ⟨rfl,?_⟩;unfold Reg.upon;have hk:=zZ.out 8 Lq wq (by decide)  hh.cls;have hx:Ar 8 wq wq:=Ac.out wq;have he:Am 8 (.int .i64 (k:Int)) wq:=by rw [zX.out]
     have HK:=ab (And.intro hk (And.intro he hx));clear hk hx he;go_simp;exact HK.out
    ·intro Lq wq xq hh;have d8:Am 8 (xq 8) wq:=hh.val 8 (by kernel_rfl) (by kernel_rfl);rw [zX.out] at d8;simp only [zJ,d8];clear d8;refine .inl ⟨rfl,?_⟩;unfold Reg.upon;go_simp
     try rw [KA]
     exact ⟨zZ.out 9 Lq wq (by decide) hh.cls,(by rw [z4.out]),Ac.out _⟩
    ·intro Lq wq xq hh;have d7:Am 7 (xq 7) wq:=hh.val 7 (by kernel_rfl) (by kernel_rfl);rw [zP.out] at d7;have d9:Am 9 (xq 9) wq:=hh.val 9 (by kernel_rfl) (by kernel_rfl);rw [z4.out] at d9;simp only [zJ,d7,d9];clear d7 d9;refine .inl ⟨rfl,?_⟩;unfold Reg.upon;have hk:=zZ.out 10 Lq wq (by decide)  hh.cls;have hx:Ar 10 wq wq:=Ac.out wq;have he:Am 10 (.pointer (some ⟨ba,oa+(k+1),none⟩)) wq:=by rw [zO.out]
     have HK:=ab (And.intro hk (And.intro he hx));clear hk hx he;go_simp;exact HK.out
    ·intro Lq wq xq hh;have d10:Am 10 (xq 10) wq:=hh.val 10 (by kernel_rfl) (by kernel_rfl);rw [zO.out] at d10;simp only [zJ,d10];clear d10;refine .inl ⟨rfl,?_⟩;unfold Reg.upon;have hc:zM Lq wq:=hh.cls;rw [zK.out] at hc;have q2:=((hc.2.1 (Mix.one_un (hh.notYet 15 (by kernel_rfl)))).2.cell (p:=⟨ba,oa+(k+1),none⟩) FR.out).trans Nj.out;clear hc;have hk:=zZ.out 11 Lq wq (by decide)  hh.cls;have hx:Ar 11 wq wq:=Ac.out wq;have he:Am 11 (.int .i64 (b:Int)) wq:=by rw [z6.out]
     have HK:=ab (And.intro hk (And.intro he hx));clear hk hx he;go_simp;exact HK.out
    ·intro Lq wq xq hh;have d2:Am 2 (xq 2) wq:=hh.val 2 (by kernel_rfl) (by kernel_rfl);rw [zS.out] at d2;have d6:Am 6 (xq 6) wq:=hh.val 6 (by kernel_rfl) (by kernel_rfl);rw [zY.out] at d6;have d11:Am 11 (xq 11) wq:=hh.val 11 (by kernel_rfl) (by kernel_rfl);rw [z6.out] at d11;simp only [zJ,d2,d6,d11];clear d2 d6 d11;refine .inl ⟨rfl,?_⟩;unfold Reg.upon;have hk:=zZ.out 12 Lq wq (by decide)  hh.cls;have hx:Ar 12 wq wq:=Ac.out wq;have he:Am 12 (.slice (some ⟨bx,ox+a,none⟩) (b - a) (ca - a)) wq:=by rw [z9.out]
     have HK:=ab (And.intro hk (And.intro he hx));clear hk hx he;go_simp;exact HK.out
    ·intro Lq wq xq hh;have d1:Am 1 (xq 1) wq:=hh.val 1 (by kernel_rfl) (by kernel_rfl);rw [zQ.out] at d1;have d12:Am 12 (xq 12) wq:=hh.val 12 (by kernel_rfl) (by kernel_rfl);rw [z9.out] at d12;simp only [zJ,d12];clear d12;refine .inl ⟨rfl,?_⟩;unfold Reg.upon;obtain ⟨g9,e9,h9⟩:=d1;have hc:zM Lq wq:=hh.cls;rw [zK.out] at hc;have hw:=Kz.out.trans ((hc.2.1 (Mix.one_un (hh.notYet 15 (by kernel_rfl)))).2.mono Kz.out.size);rw [e9];obtain ⟨v',w',hr,h2,hb1⟩:=sS wq _ 27 g9 h9 _ (bu xs (a,b)) (HSLI.out wq hw) HSLN.out.2 HSLN.out.1 hc.2.2;rw [kX rfl rfl rfl hr];refine ⟨zZ.out 13 Lq _ (by decide) (Al.out Lq wq _ hh.cls hb1),?_,Ab.out wq _ hb1⟩;rw [Aa.out];exact (dH (Z:=fun b=>wr.heap.size<=b) h2).held (fun b h _=>h)
    ·intro Lq wq xq hh;have d13:Am 13 (xq 13) wq:=hh.val 13 (by kernel_rfl) (by kernel_rfl);rw [Aa.out] at d13;simp only [zJ];refine .inl ⟨rfl,?_⟩;unfold Reg.upon;have hc:zM Lq wq:=hh.cls;rw [zK.out] at hc;obtain ⟨a3,c3,e3⟩:=d13.len;have hb:=zI wq (.cells [xq 13].toArray 27);have Cq:HeldE rowE (fun b=>wr.heap.size<=b) (wq.alloc (.cells [xq 13].toArray 27)) (.slice (some ⟨wq.heap.size,0,none⟩) 1 1) [bu xs (a,b)]:=aO (Y:=fun b=>wr.heap.size<=b) [xq 13] _ ⟨_,rfl,d13⟩ (fun b _ h=>h) hc.2.2;rw [e3] at hb Cq ⊢;go_simp;refine ⟨zZ.out 14 Lq _ (by decide) (Al.out Lq wq _ hh.cls hb),?_,Ab.out wq _ hb⟩;rw [Ag.out];exact Cq
    ·intro Lq wq xq hh;have d0:Am 0 (xq 0) wq:=hh.val 0 (by kernel_rfl) (by kernel_rfl);rw [zR.out] at d0;have d14:Am 14 (xq 14) wq:=hh.val 14 (by kernel_rfl) (by kernel_rfl);rw [Ag.out] at d14;simp only [zJ,d0];clear d0;refine .inl ⟨rfl,?_⟩;unfold Reg.upon;have hc:zM Lq wq:=hh.cls;rw [zK.out] at hc;have hc4:=hc.2.1 hh.un;obtain ⟨v',w',hr,h1,h2,h3,h4⟩:=i5 (P:=Tryz.prog) (E:=rowE) (Z:=fun b=>w2.heap.size<=b) (w:=wq) (B:=w2.heap.size) (ty:=27) 159 _ (.slice none 0 0) 24 Tryz.underlying159 xM rfl (by decide) hc4.1 (d14.zoned (Y:=fun b=>w2.heap.size<=b/\ov.ownBlock≠some b) (fun b _ hz=>⟨Nat.le_trans Hm.out hz,fun e=>by have:=(AD.out b e).2;omega⟩)) (by simp only [List.length_singleton];have:=MI.out;omega) (by simp only [List.length_singleton];have:=MI.out;omega) (Nat.le_trans Hm.out hc.2.2);rw [kX rfl rfl rfl hr];have hu:Upd (fun b=>ov.ownBlock=some b) wq w':=⟨h2.os,h2.tape,h2.output,h3.size,fun b hb hn=>h3.block b hb hn⟩;refine ⟨?_,?_,?_⟩
     ·rw [zK.out];refine ⟨hc.1.trans h2,fun e=>?_,Nat.le_trans hc.2.2 h2.size⟩;rw [Mix.one_set (by rw [hh.size];decide)] at e;exact absurd e (by decide)
     ·rw [Ae.out];exact h1
     ·rw [z8.out];exact hu
    ·intro Lq wq xq hh;have d15:Am 15 (xq 15) wq:=hh.val 15 (by kernel_rfl) (by kernel_rfl);rw [Ae.out] at d15;simp only [zJ];refine .inl ⟨rfl,?_⟩;unfold Reg.upon;go_simp;exact ⟨zZ.out 16 Lq wq (by decide) hh.cls,(by rw [Ai.out];exact d15),Ac.out _⟩
   intro xq Dk Af Av;rw [zK.out] at Af;simp only [zJ];have vrg16:Am 16 (xq 16) Dk:=Av 16 (by decide);rw [Ai.out] at vrg16;clear Av zJ zZ Ac JD Ao zK z8 Al Ab zR zQ zS zT zW zV zY zP zX z4 zO z6 z9 Aa Ag Ae Ai;have HF:=ab (show OwnE rowE (fun b=>w2.heap.size<=b) Dk w2.heap.size 27 (xq 16) ((bj xs).take (k+1)) from by rw [Mz.out];exact vrg16);have HB:=ab Af.1;clear Af vrg16;go_wp2
   go_roundw
   case rel=>exact ⟨k+1,by omega,by go_num,HF.out,HB.out⟩
   case measure=>simp [intOf] <;> omega
  ·obtain rfl:k=m:=by omega
   have HF:=ab (show rI w (bj xs) (.returned ov) wr from by
    have h:=HO.out;rw [List.take_of_length_le (by rw [Gp.out,<-HM.out];exact Nat.le_refl _)] at h;exact ⟨ov,rfl,(h.base AM.out.size).keep (Y:=fun b=>w.heap.size<=b) (.refl _ _) (fun b _ hz=>Nat.le_trans AM.out.size hz),AM.out.trans (z5.out.mono AM.out.size)⟩)
   go_wp2;go_ret;exact HF.out
def kW(A B:List (Int × Int)):Bool:=A.all fun p=>B.all fun q=>decide (p.2<q.1) || decide (q.2<p.1)
theorem gZ{A B:List (Int × Int)}(h:kW A B=true){r:Int}(ha:aL A r=true):aL B r=false:=by
 cases hb:aL B r with
 |false=>rfl
 |true =>
  obtain ⟨p,hp,h1⟩:=List.any_eq_true.1 ha;obtain ⟨q,hq,h2⟩:=List.any_eq_true.1 hb;have h3:=List.all_eq_true.1 (List.all_eq_true.1 h p hp) q hq
  simp at h1 h2 h3
  omega
theorem sm:kW tControl tPict=true:=by decide +kernel
theorem sn:kW tControl tCons=true:=by decide +kernel
theorem sq:kW tControl tLink=true:=by decide +kernel
theorem sr:kW tControl tJoin=true:=by decide +kernel
theorem iE(r:Int):bi r=0\/9<=bi r:=by
 unfold bi
 repeat' split
 all_goals omega
theorem iF{r:Int}(h:1<=bQ r/\bQ r<=3):aL tPict r=false/\du r=0:=by
 have hc:r=13\/r=10\/aL tControl r=true:=by
  by_cases h1:r=13
  ·exact .inl h1
  by_cases h2:r=10
  ·exact .inr (.inl h2)
  right;right
  cases hi:aL tControl r with
  |true=>rfl
  |false =>
   exfalso;unfold bQ bm at h;rw [if_neg h1,if_neg h2,hi] at h;simp only [Bool.false_eq_true,if_false] at h;have DH:=iE r
   repeat' split at h
   all_goals omega
 rcases hc with rfl | rfl | hc
 ·exact ⟨by decide +kernel,by decide +kernel⟩
 ·exact ⟨by decide +kernel,by decide +kernel⟩
 ·refine ⟨gZ sm hc,?_⟩;unfold du;rw [gZ sn hc,gZ sq hc,gZ sr hc]
  rfl
theorem jM{xs ys:List Pr}:∀ k,(∀ i,i<k->xs.getD i Pr.none=ys.getD i Pr.none)->cSt xs k=cSt ys k/\pSt xs k=pSt ys k/\oSt xs k=oSt ys k/\lSt xs k=lSt ys k
 |0,_=>⟨rfl,rfl,rfl,rfl⟩
 |k+1,h=>by
  obtain ⟨h1,h2,h3,_⟩:=jM k fun i hi=>h i (by omega)
  have h5:=h k (by omega);simp only [cSt,pSt,oSt,lSt];rw [h1,h2,h3,h5];exact ⟨rfl,rfl,rfl,rfl⟩
theorem uB{xs ys:List Pr}(k:Nat)(h:∀ i,i<k+1->xs.getD i Pr.none=ys.getD i Pr.none):jR xs k=jR ys k:=by
 obtain ⟨h1,h2,h3,h4⟩:=jM k fun i hi=>h i (by omega)
 rw [lq,lq,h1,h2,h3,h4,h k (by omega)]
theorem fW(a b:List Int)(i:Nat)(h:i<a.length):(aq (a++b)).getD i Pr.none=(aq a).getD i Pr.none:=by
 unfold aq;rw [List.map_append]
 simp [List.getD,List.getElem?_append_left (show i<(a.map bh).length by simpa using h)]
theorem oF(a b:List Int)(i:Nat):(aq (a++b)).getD (a.length+i) Pr.none=(aq b).getD i Pr.none:=by
 unfold aq;rw [List.map_append,List.getD,List.getElem?_append_right (by simp)]
 simp [List.getD]
section
theorem gH{r:Int}(h:bL r=true):1<=bQ r/\bQ r<=3:=by
 have hk:∀ n:Fin 160,bL ((n.1:Nat):Int)=true->1<=bQ ((n.1:Nat):Int)/\bQ ((n.1:Nat):Int)<=3:=by decide +kernel
 have hr:0<=r/\r<160:=by
  unfold bL at h
  simp at h
  omega
 have:=hk ⟨r.toNat,by omega⟩;simp only [Int.toNat_of_nonneg hr.1] at this;exact this h
theorem mr(r:Int):bm r≠1/\bm r≠2:=by
 unfold bm
 repeat' split
 all_goals omega
theorem xK{r:Int}(h:bL r=false):bQ r≠1/\bQ r≠2:=by
 have h1:r≠13:=by rintro rfl;exact absurd h (by decide)
 have h2:r≠10:=by rintro rfl;exact absurd h (by decide)
 have hl:=mr r;have hc:=iE r;unfold bQ;rw [if_neg h1,if_neg h2]
 repeat' split
 all_goals omega
theorem sj{a b:Int}(h:1<=a/\a<=3):cl a b=(if a=1/\clI b=2 then 1 else 0):=by
 unfold cl;have ha:clI a=a:=by unfold clI;split <;> omega
 rw [ha];unfold cF
 by_cases e:a=1/\clI b=2
 ·rw [if_pos e,if_pos e]
 ·have hb:brB a=true:=by unfold brB;simp;omega
  rw [if_neg e,if_neg e,if_pos (.inl hb)]
theorem eh(xs:List Int):xs=[]\/∃ ys r,xs=ys++[r]:=by
 rcases List.eq_nil_or_concat xs with h | ⟨ys,r,h⟩
 ·exact .inl h
 ·exact .inr ⟨ys,r,by rw [h,List.concat_eq_append]⟩
theorem cl_two{b:Int}:clI b=2↔b=2:=by unfold clI;split <;> omega
section
variable {α : Type}
theorem kf(T S:List α)(p:Nat × Nat)(h1:p.1<=p.2)(h2:p.2<=T.length):bu (T++S) p=bu T p:=by
 unfold bu;rw [List.drop_append_of_le_length (by omega),List.take_append_of_le_length (by rw [List.length_drop];omega)]
theorem qp(T:List α)(x:α)(a:Nat)(h:a<=T.length):bu (T++[x]) (a,T.length+1)=bu T (a,T.length)++[x]:=by
 unfold bu;rw [List.drop_append_of_le_length h,List.take_of_length_le (by rw [List.length_append,List.length_drop,List.length_singleton];simp only;omega),List.take_of_length_le (by rw [List.length_drop];exact Nat.le_refl _)]
end
def dt(xs:List Int):List (List Int):=(dX (jR (aq xs)) xs.length).map (bu xs)
def aU(xs:List Int):List Int:=bu xs (eK (jR (aq xs)) xs.length,xs.length)
theorem gY{xs:List Int}(h:xs≠[]):bj xs=dt xs++[aU xs]:=by
 have hn:xs.length≠0:=fun e=>h (List.length_eq_zero_iff.1 e)
 unfold bj clS fb dt aU;rw [if_neg hn,List.map_append]
 rfl
def dw(xs:List Int)(r:Int):Bool:=jR (aq (xs++[r])) xs.length
theorem jJ(r:Int):dw [] r=false:=kK _
theorem ms(xs:List Int)(r:Int):dX (jR (aq (xs++[r]))) xs.length=dX (jR (aq xs)) xs.length/\eK (jR (aq (xs++[r]))) xs.length=eK (jR (aq xs)) xs.length :=
 kh _ _ _ fun i hi=>uB i fun k hk=>fW xs [r] k (by omega)
theorem mt(xs:List Int)(r:Int):(dX (jR (aq xs)) xs.length).map (bu (xs++[r]))=dt xs:=by
 unfold dt
 apply List.map_congr_left
 intro p hp;have:=i8 _ _ p hp;exact kf _ _ _ (by omega) (by omega)
theorem fH{xs:List Int}{r:Int}(h:dw xs r=true):dt (xs++[r])=dt xs/\aU (xs++[r])=aU xs++[r]:=by
 obtain ⟨h1,h2⟩:=ms xs r;have hl:(xs++[r]).length=xs.length+1:=by simp
 constructor
 ·rw [<-mt xs r]
  conv=>lhs;unfold dt
  rw [hl,ej,if_pos (.inl h),h1]
 ·conv=>lhs;unfold aU
  rw [hl,ei,if_pos (.inl h),h2,qp _ _ _ (oJ _ _)]
  rfl
theorem eZ{xs:List Int}{r:Int}(h:dw xs r=false):dt (xs++[r])=bj xs/\aU (xs++[r])=[r]:=by
 obtain ⟨h1,h2⟩:=ms xs r;have hl:(xs++[r]).length=xs.length+1:=by simp
 have hj:¬ jR (aq (xs++[r])) xs.length=true:=by
  have h:jR (aq (xs++[r])) xs.length=false:=h;rw [h];decide
 by_cases h0:xs=[]
 ·subst h0;exact ⟨rfl,rfl⟩
 ·have hn:xs.length≠0:=fun e=>h0 (List.length_eq_zero_iff.1 e)
  have hno:¬ (jR (aq (xs++[r])) xs.length=true\/xs.length=0):=fun e=>e.elim hj hn
  constructor
  ·conv=>lhs;unfold dt
   rw [hl,ej,if_neg hno,List.map_append,h1,mt,h2,gY h0]
   congr 1
   show [bu (xs++[r]) (eK (jR (aq xs)) xs.length,xs.length)]=[aU xs];rw [kf _ _ _ (oJ _ _) (Nat.le_refl _)]
   rfl
  ·conv=>lhs;unfold aU
   rw [hl,ei,if_neg hno];unfold bu
   simp
theorem rH(xs:List Int)(r:Int):xs++[r]≠[]:=by simp
def bT(xs:List Int):Bool:=match xs.getLast? with | none=>false | some r=>!bL r
theorem cI(xs:List Int)(r:Int):bT (xs++[r]) = !bL r:=by unfold bT;rw [List.getLast?_concat]
def oC(xs:List Int):Bool:=bT xs
def oD(xs:List Int):Int:=if bT xs=true then lSt (aq xs) xs.length else 0
def kD(xs:List Int):Int:=if bT xs=true then cSt (aq xs) xs.length else 0
def kE(xs:List Int):Int:=if bT xs=true then pSt (aq xs) xs.length else 0
def lZ(xs:List Int):Bool:=if bT xs=true then oSt (aq xs) xs.length else false
theorem iY(xs:List Int)(r:Int):cSt (aq (xs++[r])) xs.length=cSt (aq xs) xs.length/\pSt (aq (xs++[r])) xs.length=pSt (aq xs) xs.length/\oSt (aq (xs++[r])) xs.length=oSt (aq xs) xs.length/\lSt (aq (xs++[r])) xs.length=lSt (aq xs) xs.length :=
 jM xs.length fun i hi=>fW xs [r] i hi
theorem eU(xs:List Int)(r:Int):(aq (xs++[r])).getD xs.length Pr.none=bh r:=by
 have:=oF xs [r] 0;rw [Nat.add_zero] at this;rw [this]
 rfl
theorem iZ(xs:List Int)(r:Int):cSt (aq (xs++[r])) (xs++[r]).length=dg (cSt (aq xs) xs.length) (du r)/\pSt (aq (xs++[r])) (xs++[r]).length=eu (pSt (aq xs) xs.length) (bQ r) (aL tPict r)/\oSt (aq (xs++[r])) (xs++[r]).length=(bQ r == 6 && !oSt (aq xs) xs.length)/\lSt (aq (xs++[r])) (xs++[r]).length=bQ r:=by
 obtain ⟨h1,h2,h3,h4⟩:=iY xs r;have hl:(xs++[r]).length=xs.length+1:=by simp
 rw [hl];simp only [cSt,pSt,oSt,lSt];rw [h1,h2,h3,eU];exact ⟨rfl,rfl,rfl,rfl⟩
theorem mu{xs:List Int}(h:bT xs=false):cSt (aq xs) xs.length=0/\pSt (aq xs) xs.length=0/\oSt (aq xs) xs.length=false:=by
 rcases eh xs with rfl | ⟨ys,r,rfl⟩
 ·exact ⟨rfl,rfl,rfl⟩
 ·rw [cI] at h;have hs:bL r=true:=by simpa using h
  have hc:=gH hs;obtain ⟨p1,p2⟩:=iF hc;obtain ⟨h1,h2,h3,_⟩:=iZ ys r;rw [h1,h2,h3,p1,p2];refine ⟨by unfold dg;simp,?_,?_⟩
  ·unfold eu;generalize pSt (aq ys) ys.length=s;rw [if_neg (by decide)]
   by_cases e:s≠1
   ·rw [if_pos e]
   ·rw [if_neg e,if_neg (by omega),if_neg (by omega)]
  ·have:(bQ r == 6)=false:=by simp;omega
   rw [this];rfl
theorem kJ(xs:List Int):kD xs=cSt (aq xs) xs.length/\kE xs=pSt (aq xs) xs.length/\lZ xs=oSt (aq xs) xs.length:=by
 unfold kD kE lZ
 cases h:bT xs with
 |true=>exact ⟨rfl,rfl,rfl⟩
 |false =>
  obtain ⟨h1,h2,h3⟩:=mu h;rw [h1,h2,h3];exact ⟨rfl,rfl,rfl⟩
theorem jK{xs:List Int}{r:Int}(hr:bL r=false)(ho:bT xs=false):dw xs r=false:=by
 rcases eh xs with rfl | ⟨ys,q,rfl⟩
 ·exact jJ r
 ·have hq:bL q=true:=by rw [cI] at ho;simpa using ho
  obtain ⟨h1,h2,h3⟩:=mu ho;obtain ⟨k1,k2,k3,k4⟩:=iY (ys++[q]) r;unfold dw;rw [lq,k1,k2,k3,k4,h1,h2,h3,eU,(iZ ys q).2.2.2];have hj:cl (bQ q) (bQ r)≠1:=by
   rw [sj (gH hq)];have:=(xK hr).2;rw [if_neg (fun e=>this (cl_two.1 e.2))]
   decide
  unfold cz bh
  simp [hj]
theorem sl{xs:List Int}{r:Int}(hr:bL r=false):cz (oC xs) (oD xs) (kD xs) (kE xs) (lZ xs) (bQ r) (aL tPict r) (du r)=dw xs r:=by
 cases ho:bT xs with
 |false =>
  rw [jK hr ho];unfold cz oC;rw [ho,if_pos rfl]
 |true =>
  have hn:0<xs.length:=by
   cases xs with
   | nil=>cases ho
   | cons=>simp
  obtain ⟨k1,k2,k3,k4⟩:=iY xs r;obtain ⟨v1,v2,v3⟩:=kJ xs;unfold dw;rw [lq,k1,k2,k3,k4,eU,v1,v2,v3,decide_eq_true hn];unfold oC oD;rw [ho,if_pos rfl]
  rfl
theorem uA{xs:List Int}{r:Int}(hr:bL r=false):oC (xs++[r])=true/\oD (xs++[r])=bQ r/\kD (xs++[r])=dg (kD xs) (du r)/\kE (xs++[r])=eu (kE xs) (bQ r) (aL tPict r)/\lZ (xs++[r])=(bQ r == 6 && !lZ xs):=by
 have ho:bT (xs++[r])=true:=by rw [cI,hr];rfl
 obtain ⟨h1,h2,h3,h4⟩:=iZ xs r;obtain ⟨v1,v2,v3⟩:=kJ xs;obtain ⟨u1,u2,u3⟩:=kJ (xs++[r]);refine ⟨ho,?_,?_,?_,?_⟩
 ·unfold oD;rw [if_pos ho,h4]
 ·rw [u1,h1,v1]
 ·rw [u2,h2,v2]
 ·rw [u3,h3,v3]
theorem xL{xs:List Int}{r:Int}(hr:bL r=true):oC (xs++[r])=false/\oD (xs++[r])=0/\kD (xs++[r])=0/\kE (xs++[r])=0/\lZ (xs++[r])=false:=by
 have ho:bT (xs++[r])=false:=by rw [cI,hr];rfl
 unfold oC oD kD kE lZ;rw [ho];exact ⟨rfl,rfl,rfl,rfl,rfl⟩
theorem yM(xs:List Int):0<=kD xs/\kD xs<=255/\0<=kE xs/\kE xs<=255:=by
 obtain ⟨v1,v2,_⟩:=kJ xs;have h1:=uQ (aq xs) xs.length;have h2:=uR (aq xs) xs.length;rw [v1,v2];omega
theorem jL:∀ (n:Nat) (xs:List Int),xs.length=n->bT xs=true->bL ((aU xs).getD 0 0)=false/\aU xs≠[]:=by
 intro n
 induction n with
 |zero =>
  intro xs hn ho;rw [List.length_eq_zero_iff.1 hn] at ho
  cases ho
 |succ n ih =>
  intro xs hn ho
  rcases eh xs with rfl | ⟨ys,r,rfl⟩
  ·cases ho
  ·have hr:bL r=false:=by rw [cI] at ho;simpa using ho
   cases hj:dw ys r with
   |false =>
    rw [(eZ hj).2];exact ⟨hr,by simp⟩
   |true =>
    have hy:bT ys=true:=by
     cases h:bT ys with
     | true=>rfl
     | false=>rw [jK hr h] at hj;cases hj
    obtain ⟨h1,h2⟩:=ih ys (by simp at hn;exact hn) hy;rw [(fH hj).2];refine ⟨?_,by simp⟩;obtain ⟨a,t,e⟩:=List.exists_cons_of_ne_nil h2;rw [e] at h1 ⊢;exact h1
theorem oE{xs:List Int}{r:Int}(hr:bL r=true)(hj:dw xs r=true):aU xs=[13]/\bT xs=false/\xs≠[]:=by
 rcases eh xs with rfl | ⟨ys,q,rfl⟩
 ·rw [jJ] at hj;cases hj
 ·obtain ⟨k1,k2,k3,k4⟩:=iY (ys++[q]) r;obtain ⟨p1,p2⟩:=iF (gH hr);have hc:=gH hr;have hj0:=hj;unfold dw at hj;rw [lq,k1,k2,k3,k4,eU,(iZ ys q).2.2.2] at hj;have h1:cl (bQ q) (bQ r)=1:=by
   unfold cz bh at hj;have h6:(bQ r == 6)=false:=by simp;omega
   simp only [p1,p2,h6] at hj
   by_cases e:cl (bQ q) (bQ r)=1
   ·exact e
   ·simp [e] at hj
  have hq:bQ q=1:=by
   unfold cl cF at h1;have hr3:clI (bQ r)=bQ r:=by unfold clI;split <;> omega
   have hb:brB (clI (bQ r))=true:=by rw [hr3];unfold brB;simp;omega
   by_cases e:clI (bQ q)=1/\clI (bQ r)=2
   ·have:=e.1;unfold clI at this;split at this <;> omega
   ·rw [if_neg e,if_pos (.inr hb)] at h1
    cases h1
  have hq13:q=13:=by
   by_cases e:q=13
   ·exact e
   ·exfalso;have hl:=mr q;have DH:=iE q;unfold bQ at hq;rw [if_neg e] at hq
    repeat' split at hq
    all_goals omega
  subst hq13;have hs:bL 13=true:=by decide
  refine ⟨?_,by rw [cI,hs];rfl,rH _ _⟩;have hn:dw ys 13=false:=by
   cases hjy:dw ys 13 with
   |false=>rfl
   |true =>
    exfalso
    rcases eh ys with rfl | ⟨zs,q2,rfl⟩
    ·rw [jJ] at hjy;cases hjy
    ·obtain ⟨k1,k2,k3,k4⟩:=iY (zs++[q2]) 13;obtain ⟨p1,p2⟩:=iF (gH hs);unfold dw at hjy;rw [lq,k1,k2,k3,k4,eU,(iZ zs q2).2.2.2] at hjy;have h1:cl (bQ q2) (bQ 13)=1:=by
      unfold cz bh at hjy;have h6:(bQ 13 == 6)=false:=by decide
      simp only [p1,p2,h6] at hjy
      by_cases e:cl (bQ q2) (bQ 13)=1
      ·exact e
      ·simp [e] at hjy
     have Et:bQ 13=1:=rfl;rw [Et] at h1;unfold cl cF at h1;have e1:clI 1=1:=by decide
     rw [e1] at h1;rw [if_neg (fun e=>absurd e.2 (by decide)),if_pos (.inr (by decide))] at h1
     cases h1
  exact (eZ hn).2
end
def zeroL:List Int:=[1,2,3,4,5,10,11]
theorem zF(w:World)(br:Int)(b:Bool)(cv ea:Int):∃ W,W=(w.alloc (.cells #[.int .i64 br,.bool b,.int .i64 cv,.int .i64 ea] 33)).alloc (.cells #[.int .i64 1,.int .i64 2,.int .i64 3,.int .i64 4,.int .i64 5,.int .i64 10,.int .i64 11] 3) /\
  Has W w.heap.size [.int .i64 br,.bool b,.int .i64 cv,.int .i64 ea] 33/\Has W (w.heap.size+1) (zeroL.map (Value.int .i64)) 3/\Below w.heap.size w W:=by
 refine ⟨_,rfl,(Has.new w _ _).alloc _,?_,(zI _ _).alloc (by simp) _⟩;have:=Has.new (w.alloc (.cells #[.int .i64 br,.bool b,.int .i64 cv,.int .i64 ea] 33)) (zeroL.map (Value.int .i64)) 3;rw [World.size_alloc] at this;exact this
theorem pT(br:Int):(br=1\/br=2\/br=3\/br=4\/br=5\/br=10\/br=11)↔∃ j,j<7/\br=zeroL.getD j 0:=by
 constructor
 ·rintro (h | h | h | h | h | h | h)
  ·exact ⟨0,by decide,h⟩
  ·exact ⟨1,by decide,h⟩
  ·exact ⟨2,by decide,h⟩
  ·exact ⟨3,by decide,h⟩
  ·exact ⟨4,by decide,h⟩
  ·exact ⟨5,by decide,h⟩
  ·exact ⟨6,by decide,h⟩
 ·rintro ⟨j,hj,h⟩
  match j,hj with
  | 0,_=>exact .inl h
  | 1,_=>exact .inr (.inl h)
  | 2,_=>exact .inr (.inr (.inl h))
  | 3,_=>exact .inr (.inr (.inr (.inl h)))
  | 4,_=>exact .inr (.inr (.inr (.inr (.inl h))))
  | 5,_=>exact .inr (.inr (.inr (.inr (.inr (.inl h)))))
  | 6,_=>exact .inr (.inr (.inr (.inr (.inr (.inr h)))))
theorem wO{br ea:Int}{j:Nat}(hj:j<7)(h:br=zeroL.getD j 0):bA br ea=0:=by
 unfold bA;rw [if_pos ((pT br).2 ⟨j,hj,h⟩)]
theorem tW{br ea:Int}(h:∀ j,j<7->br≠zeroL.getD j 0):(ea=1/\bA br ea=2)\/((ea == 1)=false/\ea=2/\bA br ea=2)\/((ea == 1)=false/\(ea == 2)=false/\bA br ea=1):=by
 have hn:¬ (br=1\/br=2\/br=3\/br=4\/br=5\/br=10\/br=11):=fun e=>by
  obtain ⟨j,hj,hh⟩:=(pT br).1 e;exact h j hj hh
 unfold bA;rw [if_neg hn]
 by_cases e1:ea=1
 ·exact .inl ⟨e1,by simp [e1]⟩
 by_cases e2:ea=2
 ·exact .inr (.inl ⟨by simpa using e1,e2,by simp [e2]⟩)
 ·exact .inr (.inr ⟨by simpa using e1,by simpa using e2,by simp [e1,e2]⟩)
theorem wP(br:Int)(b:Bool)(cv ea:Int)(w:World):Calls Tryz.prog 140 #[.agg #[.int .i64 br,.bool b,.int .i64 cv,.int .i64 ea]] w (Gives w (.int .i64 (bA br ea))):=by
 go_enter Tryz.func140,Tryz.ntmps140
 go_wp2;obtain ⟨W,hW,hp,hz,hl⟩:=zF w br b cv ea;rw [<-hW];have p0:=hp.cell 0 _ rfl;have p3:=hp.cell 3 _ rfl;have HP:=ab hp;have HZ:=ab hz;have hlz:=hz.lt;clear hp hz hW
 go_loopw [4] (fun i wr=>∃ k:Nat,k<=7/\i=.int .i64 k/\Hid (∀ j,j<k->br≠zeroL.getD j 0)/\Below W.heap.size W wr) (fun i _=>7 - (intOf i).toNat)
 case atStart=>exact ⟨0,Nat.zero_le _,rfl,ab (fun j hj=>by omega),Below.refl _ _⟩
 case round =>
  obtain ⟨k,hk,rfl,HN,zN⟩:=hrel;have p0:=(zN.cell (p:=⟨w.heap.size,0,none⟩) HP.out.lt).trans p0;have p3:=(zN.cell (p:=⟨w.heap.size,3,none⟩) HP.out.lt).trans p3
  by_cases hlt:k<7
  ·have hz:=(zN.cell (p:=⟨w.heap.size+1,k,none⟩) HZ.out.lt).trans (HZ.out.cell k (.int .i64 (zeroL.getD k 0)) (by
    have hk7:k<zeroL.length:=hlt
    simp [List.getElem?_eq_getElem hk7]))
   by_cases he:br=zeroL.getD k 0
   ·have HV:=ab (wO (ea:=ea) hlt he);rw [<-he] at hz;clear he HN;go_wp2
    go_quiet (fail)
    have Ax:=hl.trans ((zN.drewN nq).mono hl.size);go_wp2;go_ret;exact ⟨al (by rw [HV.out];rfl),Ax⟩
   ·have FC:=ab (show ∀ j,j<k+1->br≠zeroL.getD j 0 from fun j hj=>by
     by_cases h:j=k
     ·subst h;exact he
     ·exact HN.out j (by omega))
    have he':(br == zeroL.getD k 0)=false:=by simpa using he
    generalize zeroL.getD k 0=z at hz he he';go_wp2
    go_quiet (fail)
    have zN:=zN.drewN nq;go_wp2
    go_roundw
    case rel=>exact ⟨k+1,by omega,by go_num,FC,zN⟩
    case measure=>simp [intOf] <;> omega
  ·have hm:=tW (br:=br) (ea:=ea) (fun j hj=>HN.out j (by omega));have Ax:=hl.trans (zN.mono hl.size);clear HN
   rcases hm with ⟨rfl,hs⟩ | ⟨h1,rfl,hs⟩ | ⟨h1,h2,hs⟩
   all_goals
    have HS:=ab hs;clear hs;go_wp2;go_ret;exact ⟨al (by rw [HS.out];rfl),Ax⟩
def gE(ps:List Pr):Nat->Bool
 | 0=>false
 | k+1=>(ps.getD k Pr.none).pc
def ee(xs:List Int)(ps:List Pr)(i:Nat):Bool:=dz (decide (0<i)) (gE ps i) (xs.getD i 0) (ps.getD i Pr.none).br (ps.getD i Pr.none).pc (ps.getD i Pr.none).ea
def iS(xs:List Int)(ps:List Pr):Nat->Bool
 | 0=>false
 | k+1=>iS xs ps k || ee xs ps k
def j7(xs:List Int)(ps:List Pr)(n:Nat):Int:=if iS xs ps n=true then 2 else 1
theorem tU{xs:List Int}{ps:List Pr}{k n:Nat}(h:k<=n)(ha:iS xs ps k=true):iS xs ps n=true:=by
 induction n with
 |zero =>
  obtain rfl:k=0:=by omega
  exact ha
 |succ n ih =>
  by_cases e:k=n+1
  ·subst e;exact ha
  ·show (iS xs ps n || ee xs ps n)=true;rw [ih (by omega)];rfl
theorem wM{xs:List Int}{ps:List Pr}{k n:Nat}(h:k<n)(hc:ee xs ps k=true):j7 xs ps n=2:=by
 unfold j7;rw [if_pos (tU (k:=k+1) (by omega) (by show (iS xs ps k || ee xs ps k)=true;rw [hc];simp))]
theorem tV(xs:List Int)(ps:List Pr):ee xs ps 0=(bA (ps.getD 0 Pr.none).br (ps.getD 0 Pr.none).ea == 2):=by
 unfold ee dz gE
 simp
theorem ro(r br:Int)(pic pc:Bool)(ea:Int):((bA br ea == 2)=true/\dz true pic r br pc ea=true)\/((bA br ea == 2)=false/\(r == 65039)=true/\pic=true/\dz true pic r br pc ea=true)
  \/ ((bA br ea == 2)=false/\((r == 65039)=true/\pic=false\/(r == 65039)=false)/\pc=true/\dz true pic r br pc ea=true)\/((bA br ea == 2)=false/\((r == 65039)=true/\pic=false\/(r == 65039)=false)/\pc=false/\(br == 6)=true/\dz true pic r br pc ea=true)
  \/ ((bA br ea == 2)=false/\((r == 65039)=true/\pic=false\/(r == 65039)=false)/\pc=false/\(br == 6)=false/\dz true pic r br pc ea=false):=by
 unfold dz
 cases h1:(bA br ea == 2) <;> cases h2:(r == 65039) <;> cases pic <;> cases h3:(br == 6) <;> cases pc <;> simp
theorem wN(v u:Value)(xs:List Int)(ps:List Pr)(w:World)(hx:Held .i32 w v xs)(hp:HeldP w u ps)(hl:ps.length=xs.length)(hn:xs.length<=1000000) :
  Calls Tryz.prog 76 #[v,u] w (Gives w (.int .i64 (j7 xs ps xs.length))):=by
 obtain ⟨ao,ca,rfl,hc⟩:=hx.view;obtain ⟨bo,cb,rfl,_⟩:=id hp;obtain ⟨_,hd⟩:=hp.at;have HC:=ab hc;have HD:=ab hd;rw [hl] at *;clear hc hd hx hp
 go_enter Tryz.func76,Tryz.ntmps76
 go_wp2
 go_loopw [5] (fun i wr=>∃ k:Nat,k<=xs.length/\i=.int .i64 k/\Hid (iS xs ps k=false)/\Below w.heap.size w wr) (fun i _=>xs.length - (intOf i).toNat)
 case atStart=>exact ⟨0,Nat.zero_le _,rfl,ab rfl,Below.refl _ _⟩
 case round =>
  obtain ⟨k,hk,rfl,HN,zN⟩:=hrel
  by_cases hlt:k<xs.length
  ·obtain ⟨b1,o1,rfl,hb1,AX⟩:=HC.out k hlt;obtain ⟨b2,o2,rfl,hb2,d0,d1,d2,d3⟩:=HD.out k hlt;have hstep:iS xs ps (k+1)=ee xs ps k:=by show (iS xs ps k || ee xs ps k)=_;rw [HN.out];rfl
   have DP:ee xs ps k=true->j7 xs ps xs.length=2:=wM hlt;have HR:=ab (fun w=>wP (ps.getD k Pr.none).br (ps.getD k Pr.none).pc (ps.getD k Pr.none).cv (ps.getD k Pr.none).ea w)
   cases k with
   |zero =>
    rw [tV] at hstep DP;simp only [Nat.zero_mul,Nat.add_zero] at d0 d1 d2 d3 AX;obtain ⟨q,hq⟩:=ae (ps.getD 0 Pr.none);rw [<-hq] at d0 d1 d2 d3 hstep DP HR;clear hq AX;generalize bA q.br q.ea=x at *;have d0:=(zN.cell (p:=⟨b2,o2,none⟩) hb2).trans d0;have d1:=(zN.cell (p:=⟨b2,o2+1,none⟩) hb2).trans d1;have d2:=(zN.cell (p:=⟨b2,o2+2,none⟩) hb2).trans d2;have d3:=(zN.cell (p:=⟨b2,o2+3,none⟩) hb2).trans d3
    cases Bj:(x == 2) with
    |true =>
     have HV:=ab (DP Bj);clear hstep DP HN
     go_wp2_with fail
     refine (HR.out _).mono ?_;rintro e w2 ⟨rfl,bb⟩;have Ax:=zN.trans (bb.mono zN.size);clear d0 d1 d2 d3;go_wp2;go_ret;exact ⟨al (by rw [HV.out];rfl),Ax⟩
    |false =>
     rw [Bj] at hstep;have FC:=ab hstep;clear hstep DP HN
     go_wp2_with fail
     refine (HR.out _).mono ?_;rintro e w2 ⟨rfl,bb⟩;have Ax:=zN.trans (bb.mono zN.size);clear d0 d1 d2 d3;go_wp2
     go_roundw
     case rel=>exact ⟨1,by omega,by go_num,FC,Ax⟩
     case measure=>simp [intOf] <;> omega
   |succ m =>
    obtain ⟨b3,o3,e3,hb3,_,p1,_,_⟩:=HD.out m (by omega)
    cases e3
    have hcond:ee xs ps (m+1)=dz true (ps.getD m Pr.none).pc (xs.getD (m+1) 0) (ps.getD (m+1) Pr.none).br (ps.getD (m+1) Pr.none).pc (ps.getD (m+1) Pr.none).ea:=by
     unfold ee gE;rw [decide_eq_true (show 0<m+1 by omega)]
    rw [hcond] at hstep DP;have hcs:=ro (xs.getD (m+1) 0) (ps.getD (m+1) Pr.none).br (ps.getD m Pr.none).pc (ps.getD (m+1) Pr.none).pc (ps.getD (m+1) Pr.none).ea;obtain ⟨q,hq⟩:=ae (ps.getD (m+1) Pr.none);rw [<-hq] at d0 d1 d2 d3 hstep DP HR hcs;obtain ⟨pic,hpic⟩:=ae ((ps.getD m Pr.none).pc);rw [<-hpic] at p1 hstep DP hcs;obtain ⟨r,hr⟩:=ae (xs.getD (m+1) 0);rw [<-hr] at AX hstep DP hcs;obtain ⟨br,pc,cv,ea⟩:=q;simp only at d0 d1 d2 d3 hstep DP HR hcs;clear hcond hq hpic hr HN;have HF:=ab (show ∀ w2,Below w.heap.size w w2->w2.cell? ⟨b1,o1+(m+1),none⟩=some (.int .i32 r)/\w2.cell? ⟨b2,o2+m * 4+1,none⟩=some (.bool pic)/\w2.cell? ⟨b2,o2+(m+1) * 4,none⟩=some (.int .i64 br)/\w2.cell? ⟨b2,o2+(m+1) * 4+1,none⟩=some (.bool pc)/\w2.cell? ⟨b2,o2+(m+1) * 4+2,none⟩=some (.int .i64 cv)/\w2.cell? ⟨b2,o2+(m+1) * 4+3,none⟩=some (.int .i64 ea) from fun w2 h =>
     ⟨(h.cell (p:=⟨b1,o1+(m+1),none⟩) hb1).trans AX,(h.cell (p:=⟨b2,o2+m * 4+1,none⟩) hb2).trans p1,(h.cell (p:=⟨b2,o2+(m+1) * 4,none⟩) hb2).trans d0,(h.cell (p:=⟨b2,o2+(m+1) * 4+1,none⟩) hb2).trans d1,(h.cell (p:=⟨b2,o2+(m+1) * 4+2,none⟩) hb2).trans d2,(h.cell (p:=⟨b2,o2+(m+1) * 4+3,none⟩) hb2).trans d3⟩)
    generalize bA br ea=x at *;clear AX p1 d0 d1 d2 d3;have hw0:(m:Int)+1 - 1=(m:Int):=by omega
    have HST:=ab hstep;have OL:=ab DP;clear hstep DP
    rcases hcs with ⟨h1,hs⟩ | ⟨h1,h2,rfl,hs⟩ | ⟨h1,⟨h2,rfl⟩ | h2,rfl,hs⟩ | ⟨h1,⟨h2,rfl⟩ | h2,rfl,h4,hs⟩ | ⟨h1,⟨h2,rfl⟩ | h2,rfl,h4,hs⟩
    all_goals
     have HS:=ab hs;clear hs;obtain ⟨c0,c1,c2,c3,c4,c5⟩:=HF.out wr zN
     go_wp2_with fail
     refine (HR.out _).mono ?_;rintro e w2 ⟨rfl,bb⟩;have Ax:=zN.trans (bb.mono zN.size);clear c0 c1 c2 c3 c4 c5;obtain ⟨c0,c1,c2,c3,c4,c5⟩:=HF.out w2 Ax;go_wp2
    all_goals first
     |(go_ret;exact ⟨al (by rw [OL.out HS.out];rfl),Ax⟩)
     |(go_roundw
       case rel=>exact ⟨m+2,by omega,by go_num,ab (HST.out.trans HS.out),Ax⟩
       case measure=>simp [intOf] <;> omega)
  ·obtain rfl:k=xs.length:=by omega
   have HV:=ab (show j7 xs ps xs.length=1 by unfold j7;rw [HN.out];rfl);clear HN;go_wp2;go_ret;exact ⟨al (by rw [HV.out];rfl),zN⟩
theorem tX(v:Value)(xs:List Int)(w:World)(hx:Held .i32 w v xs)(hn:xs.length<=1000000)(hr:∀ i,i<xs.length -> -2147483648<=xs.getD i 0/\xs.getD i 0<=2147483647) :
  Calls Tryz.prog 161 #[v] w (Gives w (.int .i64 (j7 xs (aq xs) xs.length))):=by
 obtain ⟨ao,ca,rfl,hc⟩:=hx.view;have HC:=ab hc;have HX:=ab hx;have HR:=ab hr;clear hc hx hr
 go_enter Tryz.func161,Tryz.ntmps161
 go_wp2
 go_loopw [3,4] (fun p i wr=>∃ k:Nat,k<=xs.length/\i=.int .i64 k/\wr.ownsRow w.heap.size 33 4 p k (bV ((aq xs).take k))/\Below w.heap.size w wr) (fun _ i _=>xs.length - (intOf i).toNat)
 case atStart=>exact ⟨0,Nat.zero_le _,rfl,World.ownsRow_nil _ _ _ _,Below.refl _ _⟩
 case round =>
  obtain ⟨k,hk,rfl,hown,zN⟩:=hrel
  by_cases hlt:k<xs.length
  ·obtain ⟨b,off,rfl,hb,AX⟩:=HC.out k hlt;have AX:=(zN.cell (p:=⟨b,off+k,none⟩) hb).trans AX;obtain ⟨r0,r1⟩:=HR.out k hlt;have CN:=oV (aq xs) k (by rw [cS];exact hlt);rw [mz hlt] at CN;obtain ⟨r,hr⟩:=ae (xs.getD k 0);rw [<-hr] at AX r0 r1 CN;have F6:=ab CN;have HOW:=ab hown;clear hr CN hown
   go_wp2_with fail
   refine (lg r _ r0 r1).mono ?_;rintro e w1 ⟨rfl,b1⟩;have hown1:=aN HOW.out b1;have hb1:=zN.trans (b1.mono zN.size);rw [show gJ r=.agg #[.int .i64 (bQ r),.bool (aL tPict r),.int .i64 (du r),.int .i64 (eL r)] from rfl];clear AX
   go_wp2_with (at_builtin;refine fe w1 rfl (.tmp 11) (.tmp 17) 28 rfl w.heap.size 33 (.agg #[.int .i64 0,.bool false,.int .i64 0,.int .i64 0]) 4 32 Tryz.underlying28 mA rfl (by decide) u3 k (bV ((aq xs).take k)) rfl hown1 [.int .i64 (bQ r),.bool (aL tPict r),.int .i64 (du r),.int .i64 (eL r)] 1 1 rfl rfl (by intro u hu;simp at hu;rcases hu with rfl | rfl | rfl | rfl <;> rfl) (by omega) (by omega) hb1.size ?_)
   intro v' w' hown' hb';have hown2:w'.ownsRow w.heap.size 33 4 v' (k+1) (bV ((aq xs).take (k+1))):=by rw [F6.out];exact hown'
   have Ma:=hb1.trans hb';clear hown1 hown';go_wp2
   go_roundw
   case rel=>exact ⟨k+1,by omega,by go_num,hown2,Ma⟩
   case measure=>simp [intOf] <;> omega
  ·obtain rfl:k=xs.length:=by omega
   rw [List.take_of_length_le (by rw [cS];exact Nat.le_refl _)] at hown;have hp:=ix hown;obtain ⟨po,pc,rfl,_⟩:=id hp;have HP:=ab hp;clear hp hown
   go_wp2_with fail
   refine (wN _ _ xs (aq xs) _ (HX.out.below zN) HP.out (cS xs) hn).mono ?_;rintro e w2 ⟨rfl,b2⟩;have Ax:=zN.trans (b2.mono zN.size);go_wp2;go_ret;exact ⟨af,Ax⟩
theorem kC{P:Program}{ρ:Operand->Value}{o:Oper}{s x:Operand}{t:TypeId}{w w':World}{v u v':Value}(ho:o.op=.call { callee:=.builtin .append,args:=#[s,x],argTypes:=#[t,t] })(hs:ρ s=v)(hx:ρ x=u)
  (hr:(Builtin.append_ #[t,t] o.type #[v,u]).run P w=.ok v' w'):(execOp ρ o).run P w=.ok (.value v') w':=by
 unfold execOp;simp only [ho,resolve,invoke,builtin,Sem.run_bind,Sem.run_pure,Result.andThen_ok,List.map_toArray,List.map_cons,List.map_nil,hs,hx,hr]
def wdC(T:List Int):Int:=if bL (T.getD 0 0)=true then 0 else j7 (T.take 16) (aq (T.take 16)) (T.take 16).length
theorem yn(xs:List Int)(ps:List Pr)(n:Nat):j7 xs ps n=1\/j7 xs ps n=2:=by unfold j7;split <;> simp
theorem yZ(T:List Int):(bL (T.getD 0 0)=true/\wdC T=0)\/(bL (T.getD 0 0)=false/\1<=wdC T/\wdC T<=2):=by
 unfold wdC
 cases h:bL (T.getD 0 0) with
 |true=>exact .inl ⟨rfl,by simp⟩
 |false =>
  right
  refine ⟨rfl,?_⟩;rw [if_neg (by simp)]
  rcases yn (T.take 16) (aq (T.take 16)) (T.take 16).length with h | h <;> omega
end Go.Proofs.YtoeggiplcaegoaaGreatDoor
