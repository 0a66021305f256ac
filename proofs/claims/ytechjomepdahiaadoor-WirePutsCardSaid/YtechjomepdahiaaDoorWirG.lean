import Derived.Test.YtechjomepdahiaaDoorZ0
import Derived.Test.YtechjomepdahiaaDoorWirF
set_option maxRecDepth 100000
set_option linter.unusedVariables false
set_option linter.unusedSimpArgs false
set_option maxHeartbeats 3000000
namespace Go.Proofs.YtechjomepdahiaaDoor
open Go.RowKit Go.ChangeShapes Go.WideShapes
theorem ct{xs:List Int}(h:aR xs)(bad:Bool):0<=(az xs bad).1/\(az xs bad).1<=255:=by
 unfold az
 split
 ·exact ⟨by simp,by simp⟩
 ·split
  ·exact ⟨by simp,by simp⟩
  ·exact h _ (List.mem_cons_self ..)
def ak:Nat->Nat->Nat->List Int->Bool->Nat × List Int × Bool
 | 0,_,_,xs,_=>(0,xs,true)
 | f+1,m,sh,xs,bad=>if (az xs bad).1<128 then (m+(az xs bad).1.toNat * sh,(az xs bad).2.1,(az xs bad).2.2) else ak f (m+((az xs bad).1.toNat - 128) * sh) (sh * 128) (az xs bad).2.1 (az xs bad).2.2
theorem jd:∀ (f m sh:Nat) (xs:List Int) (n:Nat) (y:List Int),ak f m sh xs false=(n,y,false)↔gI f m sh xs=some (n,y)
 |0,m,sh,xs,n,y=>by
  constructor
  ·intro h;cases h
  ·intro h;cases h
 |f+1,m,sh,[],n,y=>by
  constructor
  ·intro h;have:(if (0:Int)<128 then (m+(0:Int).toNat * sh,([]:List Int),true) else ak f (m+((0:Int).toNat - 128) * sh) (sh * 128) [] true)=(n,y,false):=h;rw [if_pos (by decide)] at this
   cases this
  ·intro h;cases h
 |f+1,m,sh,b :: xs,n,y=>by
  show (if b<128 then (m+b.toNat * sh,xs,false) else ak f (m+(b.toNat - 128) * sh) (sh * 128) xs false)=(n,y,false)↔(if b<128 then some (m+b.toNat * sh,xs) else gI f (m+(b.toNat - 128) * sh) (sh * 128) xs)=some (n,y)
  by_cases h:b<128
  ·rw [if_pos h,if_pos h]
   simp
  ·rw [if_neg h,if_neg h];exact jd f _ _ xs n y
theorem cN:∀ (f m sh:Nat) (xs:List Int) (bad:Bool),aR xs->m<sh->(ak f m sh xs bad).1<sh * bd f
 |0,m,sh,xs,bad=>fun _ h=>by show 0<sh * 1;omega
 |f+1,m,sh,xs,bad=>fun hb h=>by
  have h1:=ct hb bad;have hx:aR (az xs bad).2.1:=by
   unfold az
   split
   ·exact hb
   ·split
    ·exact hb
    ·exact fun x hx=>hb x (List.mem_cons_of_mem _ hx)
  unfold ak;have hB:1<=bd f:=by
   clear h1 hx
   induction f with
   |zero=>exact Nat.le_refl _
   |succ f ih=>show 1<=bd f * 128;omega
  obtain ⟨z,hz⟩:=ab ((az xs bad).1.toNat);rw [<-hz]
  split
  next hlt =>
   have hz2:z<=127:=by omega
   show m+z * sh<sh * (bd f * 128);have e1:m+z * sh<128 * sh:=by
    have:z * sh<=127 * sh:=Nat.mul_le_mul_right _ hz2;omega
   have e2:128 * sh<=sh * (bd f * 128):=by
    rw [<-Nat.mul_assoc,Nat.mul_comm 128 sh];exact Nat.mul_le_mul_right _ (Nat.le_mul_of_pos_right _ hB)
   omega
  next hlt =>
   have hz2:z - 128<=127:=by omega
   have ih:=cN f (m+(z - 128) * sh) (sh * 128) (az xs bad).2.1 (az xs bad).2.2 hx (by
    have:(z - 128) * sh<=127 * sh:=Nat.mul_le_mul_right _ hz2;omega)
   show _<sh * (bd f * 128);rw [Nat.mul_comm (bd f) 128,<-Nat.mul_assoc];exact ih
theorem bm(s0 g:Nat)(xs:List Int)(bad:Bool)(w:World)(h:RdAt s0 w g xs bad):Calls Tryd.prog 91 #[.pointer (some ⟨g,0,none⟩)] w (eA s0 g w (fun _ u=>u=.int .i64 ((ak 3 0 1 xs bad).1:Int)) (ak 3 0 1 xs bad).2.1 (ak 3 0 1 xs bad).2.2):=by
 obtain ⟨R,hR⟩:=ab (ak 3 0 1 xs bad);have HR:=aa hR;have HH:=aa (And.intro h (Upd.refl (fun b=>b=g) w));rw [<-hR];clear h hR
 go_enter Tryd.func91,Tryd.ntmps91
 go_wp2
 go_loopw [3,6] (fun nv iv wr=>∃ (i m:Nat) (ys:List Int) (bd:Bool),i<=3/\nv=.int .i64 (m:Int)/\iv=.int .i64 (i:Int)/\m<2 ^ (7 * i)/\Hid (ak (3 - i) m (2 ^ (7 * i)) ys bd=R/\RdAt s0 wr g ys bd/\Upd (fun b=>b=g) w wr)) (fun _ iv _=>3 - (intOf iv).toNat)
 case atStart=>exact ⟨0,0,xs,bad,by decide,rfl,rfl,by decide,aa ⟨HR.out.symm,HH.out.1,HH.out.2⟩⟩
 case round =>
  clear HH HR;obtain ⟨i,m,ys,bd,hi,rfl,rfl,hm,HS⟩:=hrel;obtain ⟨wo,ro⟩:=ab (wr);subst ro
  rcases (show i=0\/i=1\/i=2\/i=3 by omega) with rfl | rfl | rfl | rfl
  ·have rH:=ct HS.out.2.1.2.1 bd;have rN:=aa (cu s0 g ys bd wo HS.out.2.1);obtain ⟨x,hx⟩ : ∃ x:Nat,(az ys bd).1=(x:Int):=⟨(az ys bd).1.toNat,by omega⟩;obtain ⟨y1,pG⟩:=ab ((az ys bd).2.1);obtain ⟨b1,hb1⟩:=ab ((az ys bd).2.2);rw [hx,<-pG,<-hb1] at rN;have hx255:x<=255:=by omega
   have HE:=aa (show R=if x<128 then (m+x * 1,y1,b1) else ak 2 (m+(x - 128) * 1) 128 y1 b1 from by
    have h9:=HS.out.1.symm;have h8:ak 3 m 1 ys bd=if (az ys bd).1<128 then (m+(az ys bd).1.toNat * 1,(az ys bd).2.1,(az ys bd).2.2) else ak 2 (m+((az ys bd).1.toNat - 128) * 1) (1 * 128) (az ys bd).2.1 (az ys bd).2.2:=rfl;rw [hx,<-pG,<-hb1,Int.toNat_natCast] at h8;have h7:R=ak 3 m 1 ys bd:=h9;rw [h7,h8]
    by_cases hq:x<128
    ·rw [if_pos (by omega),if_pos hq]
    ·rw [if_neg (by omega),if_neg hq])
   have HU:=aa HS.out.2.2;have hm:m<1:=hm;obtain ⟨X,hX⟩:=ab (x % 128);have qk:(x:Int).tmod 128=(X:Int):=by rw [Int.tmod_eq_emod_of_nonneg (by omega)];omega
   have vd:X<128:=by omega
   have hX9:(X:Int) % 256=(X:Int):=by omega
   have hsh:IntKind.i64.wrap ((X:Int) * 1)=((X * 2 ^ 0:Nat):Int):=by rw [IntKind.wrap_i64];omega
   have rT:bits .or .i64 (m:Int) ((X * 2 ^ 0:Nat):Int)=((m+X * 2 ^ 0:Nat):Int):=eG m X 0 (by omega) (by decide) vd;have hor1:bits .or .i64 (m:Int) ((X:Int))=((m+X * 1:Nat):Int):=by have h:=rT;simpa using h
   clear HS hx pG hb1 rH
   go_wp2_with fail
   refine (rN.out).mono ?_;rintro e w1 ⟨u,rfl,rfl,hr,pH⟩;have HF:=aa (And.intro hr (HU.out.trans pH));clear hr pH HU
   by_cases hlt:x<128
   ·have d1:decide ((x:Int)<128)=true:=ag (by omega);have oQ:=aa (show R=(m+X * 1,y1,b1) from by rw [HE.out,if_pos hlt,hX,Nat.mod_eq_of_lt hlt]);clear hlt HE hX;go_wp2;go_ret;exact ⟨_,rfl,(by simp [oQ.out]),by rw [oQ.out];exact HF.out.1,HF.out.2⟩
   ·have d1:decide ((x:Int)<128)=false:=ah (by omega);have oQ:=aa (show ak 2 (m+X * 1) 128 y1 b1=R from by rw [HE.out,if_neg hlt,show X=x - 128 by omega]);have qK:m+X * 1<128:=by omega
    clear hlt HE hX;go_wp2
    go_roundw
    case rel=>exact ⟨1,m+X * 1,y1,b1,by decide,by first | rfl | go_num,by first | rfl | go_num,qK,aa ⟨oQ.out,HF.out.1,HF.out.2⟩⟩
    case measure=>simp [intOf]
  ·have rH:=ct HS.out.2.1.2.1 bd;have rN:=aa (cu s0 g ys bd wo HS.out.2.1);obtain ⟨x,hx⟩ : ∃ x:Nat,(az ys bd).1=(x:Int):=⟨(az ys bd).1.toNat,by omega⟩;obtain ⟨y1,pG⟩:=ab ((az ys bd).2.1);obtain ⟨b1,hb1⟩:=ab ((az ys bd).2.2);rw [hx,<-pG,<-hb1] at rN;have hx255:x<=255:=by omega
   have HE:=aa (show R=if x<128 then (m+x * 128,y1,b1) else ak 1 (m+(x - 128) * 128) 16384 y1 b1 from by
    have h9:=HS.out.1.symm;have h8:ak 2 m 128 ys bd=if (az ys bd).1<128 then (m+(az ys bd).1.toNat * 128,(az ys bd).2.1,(az ys bd).2.2) else ak 1 (m+((az ys bd).1.toNat - 128) * 128) (128 * 128) (az ys bd).2.1 (az ys bd).2.2:=rfl;rw [hx,<-pG,<-hb1,Int.toNat_natCast] at h8;have h7:R=ak 2 m 128 ys bd:=h9;rw [h7,h8]
    by_cases hq:x<128
    ·rw [if_pos (by omega),if_pos hq]
    ·rw [if_neg (by omega),if_neg hq])
   have HU:=aa HS.out.2.2;have hm:m<128:=hm;obtain ⟨X,hX⟩:=ab (x % 128);have qk:(x:Int).tmod 128=(X:Int):=by rw [Int.tmod_eq_emod_of_nonneg (by omega)];omega
   have vd:X<128:=by omega
   have hX9:(X:Int) % 256=(X:Int):=by omega
   have hsh:IntKind.i64.wrap ((X:Int) * 128)=((X * 2 ^ 7:Nat):Int):=by rw [IntKind.wrap_i64];omega
   have rT:bits .or .i64 (m:Int) ((X * 2 ^ 7:Nat):Int)=((m+X * 2 ^ 7:Nat):Int):=eG m X 7 (by omega) (by decide) vd;have hor1:bits .or .i64 (m:Int) ((X:Int) * 128)=((m+X * 128:Nat):Int):=by have h:=rT;simpa using h
   clear HS hx pG hb1 rH
   go_wp2_with fail
   refine (rN.out).mono ?_;rintro e w1 ⟨u,rfl,rfl,hr,pH⟩;have HF:=aa (And.intro hr (HU.out.trans pH));clear hr pH HU
   by_cases hlt:x<128
   ·have d1:decide ((x:Int)<128)=true:=ag (by omega);have oQ:=aa (show R=(m+X * 128,y1,b1) from by rw [HE.out,if_pos hlt,hX,Nat.mod_eq_of_lt hlt]);clear hlt HE hX;go_wp2;go_ret;exact ⟨_,rfl,(by simp [oQ.out]),by rw [oQ.out];exact HF.out.1,HF.out.2⟩
   ·have d1:decide ((x:Int)<128)=false:=ah (by omega);have oQ:=aa (show ak 1 (m+X * 128) 16384 y1 b1=R from by rw [HE.out,if_neg hlt,show X=x - 128 by omega]);have qK:m+X * 128<16384:=by omega
    clear hlt HE hX;go_wp2
    go_roundw
    case rel=>exact ⟨2,m+X * 128,y1,b1,by decide,by first | rfl | go_num,by first | rfl | go_num,qK,aa ⟨oQ.out,HF.out.1,HF.out.2⟩⟩
    case measure=>simp [intOf]
  ·have rH:=ct HS.out.2.1.2.1 bd;have rN:=aa (cu s0 g ys bd wo HS.out.2.1);obtain ⟨x,hx⟩ : ∃ x:Nat,(az ys bd).1=(x:Int):=⟨(az ys bd).1.toNat,by omega⟩;obtain ⟨y1,pG⟩:=ab ((az ys bd).2.1);obtain ⟨b1,hb1⟩:=ab ((az ys bd).2.2);rw [hx,<-pG,<-hb1] at rN;have hx255:x<=255:=by omega
   have HE:=aa (show R=if x<128 then (m+x * 16384,y1,b1) else ak 0 (m+(x - 128) * 16384) 2097152 y1 b1 from by
    have h9:=HS.out.1.symm;have h8:ak 1 m 16384 ys bd=if (az ys bd).1<128 then (m+(az ys bd).1.toNat * 16384,(az ys bd).2.1,(az ys bd).2.2) else ak 0 (m+((az ys bd).1.toNat - 128) * 16384) (16384 * 128) (az ys bd).2.1 (az ys bd).2.2:=rfl;rw [hx,<-pG,<-hb1,Int.toNat_natCast] at h8;have h7:R=ak 1 m 16384 ys bd:=h9;rw [h7,h8]
    by_cases hq:x<128
    ·rw [if_pos (by omega),if_pos hq]
    ·rw [if_neg (by omega),if_neg hq])
   have HU:=aa HS.out.2.2;have hm:m<16384:=hm;obtain ⟨X,hX⟩:=ab (x % 128);have qk:(x:Int).tmod 128=(X:Int):=by rw [Int.tmod_eq_emod_of_nonneg (by omega)];omega
   have vd:X<128:=by omega
   have hX9:(X:Int) % 256=(X:Int):=by omega
   have hsh:IntKind.i64.wrap ((X:Int) * 16384)=((X * 2 ^ 14:Nat):Int):=by rw [IntKind.wrap_i64];omega
   have rT:bits .or .i64 (m:Int) ((X * 2 ^ 14:Nat):Int)=((m+X * 2 ^ 14:Nat):Int):=eG m X 14 (by omega) (by decide) vd;have hor1:bits .or .i64 (m:Int) ((X:Int) * 16384)=((m+X * 16384:Nat):Int):=by have h:=rT;simpa using h
   clear HS hx pG hb1 rH
   go_wp2_with fail
   refine (rN.out).mono ?_;rintro e w1 ⟨u,rfl,rfl,hr,pH⟩;have HF:=aa (And.intro hr (HU.out.trans pH));clear hr pH HU
   by_cases hlt:x<128
   ·have d1:decide ((x:Int)<128)=true:=ag (by omega);have oQ:=aa (show R=(m+X * 16384,y1,b1) from by rw [HE.out,if_pos hlt,hX,Nat.mod_eq_of_lt hlt]);clear hlt HE hX;go_wp2;go_ret;exact ⟨_,rfl,(by simp [oQ.out]),by rw [oQ.out];exact HF.out.1,HF.out.2⟩
   ·have d1:decide ((x:Int)<128)=false:=ah (by omega);have oQ:=aa (show ak 0 (m+X * 16384) 2097152 y1 b1=R from by rw [HE.out,if_neg hlt,show X=x - 128 by omega]);have qK:m+X * 16384<2097152:=by omega
    clear hlt HE hX;go_wp2
    go_roundw
    case rel=>exact ⟨3,m+X * 16384,y1,b1,by decide,by first | rfl | go_num,by first | rfl | go_num,qK,aa ⟨oQ.out,HF.out.1,HF.out.2⟩⟩
    case measure=>simp [intOf]
  ·obtain ⟨re,hby,v,hh,hu⟩:=HS.out.2.1;have q1:=hh.cell 1 _ rfl;have f1:=hh.free 1;have hRE:R=(0,ys,true):=HS.out.1.symm;obtain ⟨W1,hW1⟩:=ab (wo.setCell ⟨g,1,none⟩ (.bool true));have me:=(Upd.refl (fun b=>b=g) wo).setCell (p:=⟨g,1,none⟩) (.inl rfl) (.bool true);rw [<-hW1] at me;have HF:=aa (show RdAt s0 W1 g ys true/\Upd (fun b=>b=g) w W1 from ⟨⟨re,hby,v,by rw [hW1];exact hh.set 1 (.bool true),hu.upd me (fun b hb e=>by omega)⟩,HS.out.2.2.trans me⟩);have HW:=aa hW1.symm;have HRX:=aa hRE;clear HS hW1 me hh hu hm hRE;go_wp2;rw [HW.out];go_wp2;go_ret;exact ⟨_,rfl,by rw [HRX.out];rfl,by rw [HRX.out];exact HF.out.1,HF.out.2⟩
theorem kX(s0 g:Nat)(xs:List Int)(bad:Bool)(w:World)(h:RdAt s0 w g xs bad):Calls Tryd.prog 56 #[.pointer (some ⟨g,0,none⟩)] w (fun e w'=>e=.returned (.bool (!bad && decide (xs.length=0)))/\w=w'):=by
 obtain ⟨re,hby,v,hh,hu⟩:=h;obtain ⟨ao,cap,ev⟩:=hu.len;subst ev;have q0:=hh.cell 0 _ rfl;have q1:=hh.cell 1 _ rfl;obtain ⟨N,hN⟩:=ab (xs.length);rw [<-hN] at q0 ⊢;clear hh hu hN
 cases bad with
 |true =>
  go_enter Tryd.func56,Tryd.ntmps56
  go_wp2;go_ret;exact ⟨rfl,rfl⟩
 |false =>
  by_cases h0:N=0
  ·subst h0
   go_enter Tryd.func56,Tryd.ntmps56
   go_wp2;go_ret;exact ⟨rfl,rfl⟩
  ·have d1:((N:Int) == 0)=false:=by rw [beq_eq_false_iff_ne];omega
   have HD:=aa (show decide (N=0)=false from decide_eq_false h0);clear h0
   go_enter Tryd.func56,Tryd.ntmps56
   go_wp2;go_ret;exact ⟨by rw [HD.out];rfl,rfl⟩
end Go.Proofs.YtechjomepdahiaaDoor
