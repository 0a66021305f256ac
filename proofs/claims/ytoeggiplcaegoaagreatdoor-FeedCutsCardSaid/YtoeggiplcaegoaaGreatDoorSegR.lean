import Derived.Test.YtoeggiplcaegoaaGreatDoorZ0
import Derived.Test.YtoeggiplcaegoaaGreatDoorMg3
import Derived.Test.YtoeggiplcaegoaaGreatDoorMg1
set_option maxRecDepth 100000
set_option linter.unusedVariables false
set_option linter.unusedSimpArgs false
set_option maxHeartbeats 400000
namespace Go.Proofs.YtoeggiplcaegoaaGreatDoor
open Go.RowKit Go.ChangeShapes Go.WideShapes
theorem pD(xs:List Pr)(k n:Nat):((xs.getD k Pr.none).cv=1/\ej xs (k+1) n=decide (0<n))\/(((xs.getD k Pr.none).cv == 1)=false/\(xs.getD k Pr.none).cv=2/\ej xs (k+1) n=ej xs k (n+1))
  \/ (((xs.getD k Pr.none).cv == 1)=false/\((xs.getD k Pr.none).cv == 2)=false/\(xs.getD k Pr.none).cv=3/\ej xs (k+1) n=ej xs k n)
  \/ (((xs.getD k Pr.none).cv == 1)=false/\((xs.getD k Pr.none).cv == 2)=false/\((xs.getD k Pr.none).cv == 3)=false/\ej xs (k+1) n=false):=by
 have hstep:ej xs (k+1) n=(if (xs.getD k Pr.none).cv=1 then decide (0<n) else if (xs.getD k Pr.none).cv=2 then ej xs k (n+1) else if (xs.getD k Pr.none).cv=3 then ej xs k n else false):=rfl;rw [hstep];generalize (xs.getD k Pr.none).cv=c
 by_cases h1:c=1
 ·exact .inl ⟨h1,by rw [if_pos h1]⟩
 ·have d1:(c == 1)=false:=by simpa using h1
  rw [if_neg h1]
  by_cases h2:c=2
  ·exact .inr (.inl ⟨d1,h2,by rw [if_pos h2]⟩)
  ·have d2:(c == 2)=false:=by simpa using h2
   rw [if_neg h2]
   by_cases h3:c=3
   ·exact .inr (.inr (.inl ⟨d1,d2,h3,by rw [if_pos h3]⟩))
   ·exact .inr (.inr (.inr ⟨d1,d2,by simpa using h3,by rw [if_neg h3]⟩))
theorem tP(v:Value)(xs:List Pr)(i:Nat)(w:World)(hh:HeldP w v xs)(hi:i<xs.length)(hl:xs.length<=1000000) :
  Calls Tryz.prog 254 #[v,.int .i64 i] w (Gives w (.bool (jo xs i))):=by
 obtain ⟨ao,cap,rfl,hc0⟩:=id hh;clear hc0;obtain ⟨_,hc⟩:=hh.at;have HC:=ab hc;clear hc hh;obtain ⟨b,off,rfl,hb,_,_,hx,_⟩:=HC.out i hi
 by_cases h1:(xs.getD i Pr.none).cv=1
 ·have e1:jo xs i=ej xs i 0:=by unfold jo;rw [h1];rfl
  have E1:=ab e1;rw [h1] at hx;clear h1 e1
  go_enter Tryz.func254,Tryz.ntmps254
  go_wp2
  go_loopw [5,6] (fun lk kv wr=>∃ (k n:Nat),k<=i/\n<=i - k/\kv=.int .i64 ((k:Int) - 1)/\lk=.int .i64 n/\Hid (ej xs k n=ej xs i 0)/\Below w.heap.size w wr) (fun _ kv _=>(intOf kv+1).toNat)
  case atStart=>exact ⟨i,0,Nat.le_refl _,by omega,rfl,rfl,ab rfl,Below.refl _ _⟩
  case round =>
   obtain ⟨k,n,hk,hn,rfl,rfl,HQ,AY⟩:=hrel;clear hx
   cases k with
   |zero =>
    go_wp2;go_ret;exact ⟨al (by rw [E1.out,<-HQ.out];rfl),AY⟩
   |succ k =>
    obtain ⟨b',off',e',hb',_,_,hx,_⟩:=HC.out k (by omega)
    cases e'
    have hx:=(AY.cell (p:=⟨b,off+k * 4+2,none⟩) hb').trans hx;have hw0:(((k+1:Nat):Int) - 1)=(k:Int):=by omega
    rw [hw0];clear hw0
    rcases pD xs k n with ⟨h1,hs⟩ | ⟨h1,h2,hs⟩ | ⟨h1,h2,h3,hs⟩ | ⟨h1,h2,h3,hs⟩
    ·have HS:=ab (hs.symm.trans HQ.out);rw [h1] at hx;clear h1 hs HQ;go_wp2;go_ret;exact ⟨al (by rw [E1.out,<-HS.out];simp;try omega),AY⟩
    ·have HS:=ab (hs.symm.trans HQ.out);rw [h2] at hx;clear h1 h2 hs HQ;go_wp2
     go_roundw
     case rel=>exact ⟨k,n+1,by omega,by omega,by simp,by go_num,HS,AY⟩
     case measure=>simp [intOf] <;> omega
    ·have HS:=ab (hs.symm.trans HQ.out);rw [h3] at hx;clear h1 h2 h3 hs HQ;go_wp2
     go_roundw
     case rel=>exact ⟨k,n,by omega,by omega,by simp,rfl,HS,AY⟩
     case measure=>simp [intOf] <;> omega
    ·have HS:=ab (hs.symm.trans HQ.out);clear hs HQ;generalize (xs.getD k Pr.none).cv=c at *;have n2:(c != 2)=true:=by simp [bne,h2]
     have n3:(c != 3)=true:=by simp [bne,h3]
     go_wp2;go_ret;exact ⟨al (by rw [E1.out,<-HS.out];rfl),AY⟩
 ·have PE:((xs.getD i Pr.none).cv == 1)=false:=by simpa using h1
  have e1:jo xs i=false:=by unfold jo;rw [PE];rfl
  rw [e1];clear h1 e1;generalize (xs.getD i Pr.none).cv=c at hx PE
  go_enter Tryz.func254,Tryz.ntmps254
  go_wp2;go_ret;exact ⟨af,Below.refl _ _⟩
theorem pE(xs:List Pr)(k:Nat):((xs.getD k Pr.none).pc=true/\fA xs (k+1)=true)\/((xs.getD k Pr.none).pc=false/\(xs.getD k Pr.none).br=4/\fA xs (k+1)=fA xs k)\/((xs.getD k Pr.none).pc=false/\((xs.getD k Pr.none).br == 4)=false/\fA xs (k+1)=false):=by
 have hstep:fA xs (k+1)=(if (xs.getD k Pr.none).pc=true then true else if (xs.getD k Pr.none).br=4 then fA xs k else false):=rfl;rw [hstep];generalize (xs.getD k Pr.none).br=b;generalize (xs.getD k Pr.none).pc=c
 cases c with
 |true=>exact .inl ⟨rfl,rfl⟩
 |false =>
  by_cases h:b=4
  ·exact .inr (.inl ⟨rfl,h,by simp [h]⟩)
  ·exact .inr (.inr ⟨rfl,by simpa using h,by simp [h]⟩)
theorem rp(xs:List Pr)(i:Nat):((xs.getD i Pr.none).pc=false/\iA xs i=false)\/((xs.getD i Pr.none).pc=true/\i<2/\iA xs i=false)
  \/ ((xs.getD i Pr.none).pc=true/\2<=i/\((xs.getD (i - 1) Pr.none).br == 5)=false/\iA xs i=false)\/((xs.getD i Pr.none).pc=true/\2<=i/\(xs.getD (i - 1) Pr.none).br=5/\(xs.getD (i - 1) Pr.none).pc=true/\iA xs i=false)
  \/ ((xs.getD i Pr.none).pc=true/\2<=i/\(xs.getD (i - 1) Pr.none).br=5/\(xs.getD (i - 1) Pr.none).pc=false/\iA xs i=fA xs (i - 1)):=by
 unfold iA;generalize (xs.getD i Pr.none).pc=a;generalize (xs.getD (i - 1) Pr.none).br=b;generalize (xs.getD (i - 1) Pr.none).pc=c
 cases a with
 |false=>exact .inl ⟨rfl,rfl⟩
 |true =>
  by_cases h2:2<=i
  ·by_cases h5:b=5
   ·cases c with
    | true=>exact .inr (.inr (.inr (.inl ⟨rfl,h2,h5,rfl,by simp⟩)))
    | false=>exact .inr (.inr (.inr (.inr ⟨rfl,h2,h5,rfl,by simp [h2,h5]⟩)))
   ·exact .inr (.inr (.inl ⟨rfl,h2,by simpa using h5,by simp [h5]⟩))
  ·exact .inr (.inl ⟨rfl,by omega,by simp [h2]⟩)
theorem wD(v:Value)(xs:List Pr)(i:Nat)(w:World)(hh:HeldP w v xs)(hi:i<xs.length)(hl:xs.length<=1000000) :
  Calls Tryz.prog 255 #[v,.int .i64 i] w (Gives w (.bool (iA xs i))):=by
 obtain ⟨ao,cap,rfl,hc0⟩:=id hh;clear hc0;obtain ⟨_,hc⟩:=hh.at;have HC:=ab hc;clear hc hh;obtain ⟨b,off,rfl,hb,_,hx,_,_⟩:=HC.out i hi
 rcases rp xs i with ⟨h1,hs⟩ | ⟨h1,h2,hs⟩ | ⟨h1,h2,h3,hs⟩ | ⟨h1,h2,h3,h4,hs⟩ | ⟨h1,h2,h3,h4,hs⟩
 ·rw [h1] at hx;rw [hs];clear h1 hs
  go_enter Tryz.func255,Tryz.ntmps255
  go_wp2;go_ret;exact ⟨af,Below.refl _ _⟩
 ·rw [h1] at hx;rw [hs];clear h1 hs
  go_enter Tryz.func255,Tryz.ntmps255
  go_wp2;go_ret;exact ⟨af,Below.refl _ _⟩
 all_goals
  rw [h1] at hx;obtain ⟨m,rfl⟩ : ∃ m,i=m+2:=⟨i - 2,by omega⟩;obtain ⟨b',off',e',hb',hy,hz,_,_⟩:=HC.out (m+1) (by omega)
  cases e'
  simp only [show m+2 - 1=m+1 by omega] at h3 hs
  try simp only [show m+2 - 1=m+1 by omega] at h4
  have hw0:((m+2:Nat):Int) - 1=((m+1:Nat):Int):=by omega
 ·rw [hs];generalize (xs.getD (m+1) Pr.none).br=br at *;have n3:¬ br=5:=by simpa using h3
  clear h1 hs
  go_enter Tryz.func255,Tryz.ntmps255
  go_wp2;go_ret;exact ⟨af,Below.refl _ _⟩
 ·rw [h3] at hy;rw [h4] at hz;rw [hs];clear h1 hs h3 h4
  go_enter Tryz.func255,Tryz.ntmps255
  go_wp2;go_ret;exact ⟨af,Below.refl _ _⟩
 ·rw [h3] at hy;rw [h4] at hz;have E1:=ab hs;clear h1 hs h3 h4
  go_enter Tryz.func255,Tryz.ntmps255
  go_wp2
  go_loopw [5] (fun kv wr=>∃ (k:Nat),k<=m+1/\kv=.int .i64 ((k:Int) - 1)/\Hid (fA xs k=fA xs (m+1))/\Below w.heap.size w wr) (fun kv _=>(intOf kv+1).toNat)
  case atStart=>exact ⟨m+1,Nat.le_refl _,by congr 1;omega,ab rfl,Below.refl _ _⟩
  case round =>
   obtain ⟨k,hk,rfl,HQ,AY⟩:=hrel;clear hx hy hz
   cases k with
   |zero =>
    go_wp2;go_ret;exact ⟨al (by rw [E1.out,<-HQ.out];rfl),AY⟩
   |succ k =>
    obtain ⟨b',off',e',hb',hx,hy,_,_⟩:=HC.out k (by omega)
    cases e'
    have hx:=(AY.cell (p:=⟨b,off+k * 4,none⟩) hb').trans hx;have hy:=(AY.cell (p:=⟨b,off+k * 4+1,none⟩) hb').trans hy;have Da:(((k+1:Nat):Int) - 1)=(k:Int):=by omega
    rw [Da];clear Da hw0
    rcases pE xs k with ⟨h1,hs⟩ | ⟨h1,h2,hs⟩ | ⟨h1,h2,hs⟩
    ·have HS:=ab (hs.symm.trans HQ.out);rw [h1] at hy;clear h1 hs HQ;go_wp2;go_ret;exact ⟨al (by rw [E1.out,<-HS.out];rfl),AY⟩
    ·have HS:=ab (hs.symm.trans HQ.out);rw [h1] at hy;rw [h2] at hx;clear h1 h2 hs HQ;go_wp2
     go_roundw
     case rel=>exact ⟨k,by omega,by simp,HS,AY⟩
     case measure=>simp [intOf] <;> omega
    ·have HS:=ab (hs.symm.trans HQ.out);rw [h1] at hy;clear h1 hs HQ;generalize (xs.getD k Pr.none).br=c at *;go_wp2;go_ret;exact ⟨al (by rw [E1.out,<-HS.out];rfl),AY⟩
end Go.Proofs.YtoeggiplcaegoaaGreatDoor
