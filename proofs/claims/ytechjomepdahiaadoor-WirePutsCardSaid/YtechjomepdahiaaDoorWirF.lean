import Derived.Test.YtechjomepdahiaaDoorZ0
import Derived.Test.YtechjomepdahiaaDoorWirC
import Derived.Test.YtechjomepdahiaaDoorMg2
set_option maxRecDepth 100000
set_option linter.unusedVariables false
set_option linter.unusedSimpArgs false
set_option maxHeartbeats 1500000
namespace Go.Proofs.YtechjomepdahiaaDoor
open Go.RowKit Go.ChangeShapes Go.WideShapes
theorem lJ(a b:Int)(h1:0<=a)(h2:a<4611686018427387904)(h3:0<=b)(h4:b<4611686018427387904):bits .or .i64 a b=((a.toNat ||| b.toNat:Nat):Int):=by
 have e1:(BitVec.ofInt 64 a).toNat=a.toNat:=by rw [BitVec.toNat_ofInt];omega
 have e2:(BitVec.ofInt 64 b).toNat=b.toNat:=by rw [BitVec.toNat_ofInt];omega
 have key:(BitVec.ofInt 64 a ||| BitVec.ofInt 64 b).toNat=a.toNat ||| b.toNat:=by rw [BitVec.toNat_or,e1,e2]
 have hlt:a.toNat ||| b.toNat<2 ^ 62:=Nat.or_lt_two_pow (by omega) (by omega)
 show IntKind.i64.wrap ((BitVec.ofInt 64 a ||| BitVec.ofInt 64 b).toNat:Nat)=_;rw [key,IntKind.wrap_i64];omega
theorem eG(m x k:Nat)(hm:m<2 ^ k)(hk:k<=14)(hx:x<128):bits .or .i64 (m:Int) ((x * 2 ^ k:Nat):Int)=((m+x * 2 ^ k:Nat):Int):=by
 have hp:(2:Nat) ^ k<=2 ^ 14:=Nat.pow_le_pow_right (by decide) hk;have hxb:x * 2 ^ k<=128 * 2 ^ 14:=Nat.mul_le_mul (by omega) hp;rw [lJ _ _ (by omega) (by omega) (by omega) (by omega),Int.toNat_natCast,Int.toNat_natCast,Nat.or_comm,nat_join k (x * 2 ^ k) m (Nat.mul_mod_left _ _) hm]
 congr 1
 omega
def aR(xs:List Int):Prop:=∀ x ∈ xs,0<=x/\x<=255
def RdAt(s0:Nat)(w:World)(g:Nat)(xs:List Int)(bad:Bool):Prop:=s0<=g/\aR xs/\∃ v,Has w g [v,.bool bad] 104/\HeldE (a8 .u8) (fun b=>b<s0) w v xs
section
variable {s0 g : Nat} {w w' : World} {xs : List Int} {bad : Bool}
theorem RdAt.upd(h:RdAt s0 w g xs bad){S:an}(hu:Upd S w w')(hs:∀ b,S b->s0<=b/\b≠g):RdAt s0 w' g xs bad:=by
 obtain ⟨h1,h2,v,h3,h4⟩:=h;exact ⟨h1,h2,v,hu.keep.has h3 (fun e=>(hs g e).2 rfl),h4.upd hu (fun b hb e=>by have:=(hs b e).1;omega)⟩
theorem RdAt.below(h:RdAt s0 w g xs bad)(hb:Below w.heap.size w w'):RdAt s0 w' g xs bad:=by
 obtain ⟨h1,h2,v,h3,h4⟩:=h;exact ⟨h1,h2,v,h3.below hb h3.lt,h4.below hb⟩
theorem RdAt.lt(h:RdAt s0 w g xs bad):s0<=g/\g<w.heap.size:=⟨h.1,by obtain ⟨v,h3,_⟩:=h.2.2;exact h3.lt⟩
end
def a9(n:Nat)(xs:List Int)(bad:Bool):List Int × List Int × Bool:=if bad=true\/xs.length<n then ([],xs,true) else (xs.take n,xs.drop n,false)
def az(xs:List Int)(bad:Bool):Int × List Int × Bool:=if bad=true then (0,xs,true) else match xs with
 | []=>(0,[],true)
 | b :: l=>(b,l,false)
def eA(s0 g:Nat)(w:World)(P:World->Value->Prop)(xs:List Int)(bad:Bool)(e:Ending)(w':World):Prop:=∃ u,e=.returned u/\P w' u/\RdAt s0 w' g xs bad/\Upd (fun b=>b=g) w w'
theorem fz(s0 g:Nat)(xs:List Int)(bad:Bool)(n:Nat)(w:World)(h:RdAt s0 w g xs bad)(hn:n<=100000000):Calls Tryd.prog 102 #[.pointer (some ⟨g,0,none⟩),.int .i64 (n:Int)] w (eA s0 g w (fun w' u=>HeldE (a8 .u8) (fun b=>b<s0) w' u (a9 n xs bad).1) (a9 n xs bad).2.1 (a9 n xs bad).2.2):=by
 obtain ⟨re,hby,v,hh,hu⟩:=h;have hmx:=hu.max;obtain ⟨ao,cap,ev⟩:=hu.len;subst ev;obtain ⟨N,hN⟩:=ab (xs.length);have hsp:=hu.spots;have m8:=hsp.2.1;have HH:=aa hh;have HU:=aa hu;have nS:=aa hN;rw [<-hN] at HH HU m8 hmx;have q0:=HH.out.cell 0 _ rfl;have q1:=HH.out.cell 1 _ rfl;have f0:=HH.out.free 0;have f1:=HH.out.free 1
 by_cases nx:bad=true\/N<n
 ·have HT:=aa (show a9 n xs bad=([],xs,true) from if_pos (by rw [<-hN];exact nx));obtain ⟨W1,hW1⟩:=ab (w.setCell ⟨g,1,none⟩ (.bool true));have me:=(Upd.refl (fun b=>b=g) w).setCell (p:=⟨g,1,none⟩) (.inl rfl) (.bool true);rw [<-hW1] at me;have HF:=aa (show RdAt s0 W1 g xs true/\Upd (fun b=>b=g) w W1 from ⟨⟨re,hby,.slice ao N cap,by rw [hW1];exact HH.out.set 1 (.bool true),HU.out.upd me (fun b hb e=>by omega)⟩,me⟩);have HW:=aa hW1.symm;rw [HT.out];have hsplit:bad=true\/(bad=false/\N<n):=by cases bad with | true=>exact .inl rfl | false=>exact .inr ⟨rfl,by rcases nx with h | h;cases h;exact h⟩
  clear hW1 me hh hu hN hsp nx
  rcases hsplit with rfl | ⟨rfl,hlt⟩
  ·go_enter Tryd.func102,Tryd.ntmps102
   go_wp2;rw [HW.out];go_wp2;go_ret;exact ⟨_,rfl,HeldE.nil _ _ _,HF.out.1,HF.out.2⟩
  ·have d1:decide ((N:Int)<(n:Int))=true:=ag (by omega)
   go_enter Tryd.func102,Tryd.ntmps102
   go_wp2;rw [HW.out];go_wp2;go_ret;exact ⟨_,rfl,HeldE.nil _ _ _,HF.out.1,HF.out.2⟩
 ·have hb0:bad=false:=by cases bad with | true=>exact absurd (.inl rfl) nx | false=>rfl
  subst hb0;have hnN:n<=N:=by omega
  have HT:=aa (show a9 n xs false=(xs.take n,xs.drop n,false) from if_neg (by rw [<-hN];exact nx));have d1:decide ((N:Int)<(n:Int))=false:=ah (by omega);have vc:n<=cap:=by omega
  have tP:=HU.out.part 0 n (Nat.zero_le _) (by rw [<-nS.out];exact hnN);have sW:=HU.out.part n N hnN (by rw [nS.out];exact Nat.le_refl _);rw [List.drop_zero,Nat.sub_zero] at tP;rw [show N - n=(xs.drop n).length from by rw [List.length_drop,nS.out],List.take_length] at sW;have qR:=aa tP;have wI:=aa sW;have tX:=aa (show (xs.drop n).length=N - n from by rw [List.length_drop,nS.out]);have uh:=aa (show aR (xs.drop n) from fun x hx=>hby x (List.mem_of_mem_drop hx));rw [HT.out];have hmc:cap<=9223372036854775807:=by
   obtain ⟨_,_,e,_,hm,_⟩:=HU.out
   cases e
   exact hm
  clear hh hu hN hsp nx tP sW
  cases ao with
  |none =>
   obtain ⟨e1,e2,e3⟩:=HU.out.nilL;subst e2;subst e3;obtain rfl:n=0:=by omega
   have me:=(Upd.refl (fun b=>b=g) w).setCell (p:=⟨g,0,none⟩) (.inl rfl) (.slice none 0 0);have HF:=aa (show RdAt s0 (w.setCell ⟨g,0,none⟩ (.slice none 0 0)) g (xs.drop 0) false/\Upd (fun b=>b=g) w (w.setCell ⟨g,0,none⟩ (.slice none 0 0)) from ⟨⟨re,uh.out,.slice none 0 0,HH.out.set 0 (.slice none 0 0),by subst e1;exact HeldE.nil _ _ _⟩,me⟩);have HG:=aa (show HeldE (a8 .u8) (fun b=>b<s0) (w.setCell ⟨g,0,none⟩ (.slice none 0 0)) (.slice none 0 0) (xs.take 0) from by subst e1;exact HeldE.nil _ _ _);clear me e1
   go_enter Tryd.func102,Tryd.ntmps102
   go_wp2;go_ret;exact ⟨_,rfl,HG.out,HF.out.1,HF.out.2⟩
  |some a =>
   by_cases o0:cap=n
   ·have vt:N=n:=by omega
    obtain ⟨Wn,rb⟩:=ab (w.setCell ⟨g,0,none⟩ (.slice (some a) 0 0));have me:=(Upd.refl (fun b=>b=g) w).setCell (p:=⟨g,0,none⟩) (.inl rfl) (.slice (some a) 0 0);rw [<-rb] at me;have h1:=(qR.out (some a) n (fun e=>by cases e) (fun b off e _=>by rw [e];simp) (fun _ _ e=>by cases e) (Nat.le_refl _) (by show n<=9223372036854775807;omega)).upd me (fun b hb e=>by omega);have h2:=(wI.out (some a) 0 (fun e=>by cases e) (fun b off e h=>by omega) (fun _ _ e=>by cases e) (by rw [tX.out];omega) (Nat.zero_le _)).upd me (fun b hb e=>by omega);rw [tX.out,show N - n=0 by omega] at h2;have HF:=aa (show HeldE (a8 .u8) (fun b=>b<s0) Wn (.slice (some a) n n) (xs.take n)/\RdAt s0 Wn g (xs.drop n) false/\Upd (fun b=>b=g) w Wn from ⟨h1,⟨re,uh.out,.slice (some a) 0 0,by rw [rb];exact HH.out.set 0 (.slice (some a) 0 0),h2⟩,me⟩);have HW:=aa rb.symm;clear rb me h1 h2 vt;subst o0
    go_enter Tryd.func102,Tryd.ntmps102
    go_wp2;rw [HW.out];go_ret;exact ⟨_,rfl,HF.out.1,HF.out.2.1,HF.out.2.2⟩
   ·obtain ⟨Wn,rb⟩ : ∃ Wn,Wn=w.setCell ⟨g,0,none⟩ (.slice (some (a.add n)) (N - n) (cap - n)):=⟨_,rfl⟩;have me:=(Upd.refl (fun b=>b=g) w).setCell (p:=⟨g,0,none⟩) (.inl rfl) (.slice (some (a.add n)) (N - n) (cap - n));rw [<-rb] at me;have h1:=(qR.out (some a) cap (fun e=>by cases e) (fun b off e _=>by rw [e];simp) (fun _ _ e=>by cases e) (by omega) (by show cap<=9223372036854775807;omega)).upd me (fun b hb e=>by omega);have h2:=(wI.out (some (a.add n)) (cap - n) (fun e=>by cases e) (fun b off e _=>by cases e;rw [Addr.add_lit];show _=some (Addr.mk b (off+n * 1) none);rw [Nat.mul_one]) (fun _ _ e=>by cases e) (by rw [tX.out];omega) (by show cap - n<=9223372036854775807;omega)).upd me (fun b hb e=>by omega);rw [tX.out] at h2;have HF:=aa (show HeldE (a8 .u8) (fun b=>b<s0) Wn (.slice (some a) n cap) (xs.take n)/\RdAt s0 Wn g (xs.drop n) false/\Upd (fun b=>b=g) w Wn from ⟨h1,⟨re,uh.out,.slice (some (a.add n)) (N - n) (cap - n),by rw [rb];exact HH.out.set 0 (.slice (some (a.add n)) (N - n) (cap - n)),h2⟩,me⟩);have HW:=aa rb.symm;clear rb me h1 h2
    go_enter Tryd.func102,Tryd.ntmps102
    go_wp2;rw [HW.out];go_ret;exact ⟨_,rfl,HF.out.1,HF.out.2.1,HF.out.2.2⟩
theorem cu(s0 g:Nat)(xs:List Int)(bad:Bool)(w:World)(h:RdAt s0 w g xs bad):Calls Tryd.prog 90 #[.pointer (some ⟨g,0,none⟩)] w (eA s0 g w (fun _ u=>u=.int .u8 (az xs bad).1) (az xs bad).2.1 (az xs bad).2.2):=by
 have HT:=aa (fz s0 g xs bad 1 w h (by decide))
 by_cases hc:bad=true\/xs=[]
 ·have e:a9 1 xs bad=([],xs,true):=if_pos (by rcases hc with h | h;exact .inl h;exact .inr (by rw [h];decide));have e2:az xs bad=(0,xs,true):=by
   unfold az
   rcases hc with h | h
   ·rw [if_pos h]
   ·subst h;split <;> rfl
  rw [e] at HT;rw [e2];clear hc e e2 h
  go_enter Tryd.func90,Tryd.ntmps90
  go_wp2_with fail
  refine (HT.out).mono ?_;rintro e w1 ⟨u,rfl,hu,hr,pH⟩;obtain ⟨uo,uc,eu⟩:=hu.len;subst eu;have HF:=aa (And.intro hr pH);simp only [List.length_nil];clear hu hr pH;go_wp2;go_ret;exact ⟨_,rfl,rfl,HF.out.1,HF.out.2⟩
 ·have hb0:bad=false:=by cases bad with | true=>exact absurd (.inl rfl) hc | false=>rfl
  subst hb0
  cases xs with
  |nil=>exact absurd (.inr rfl) hc
  |cons x xs =>
   have e:a9 1 (x :: xs) false=([x],xs,false):=by unfold a9;rw [if_neg (by simp)];rfl
   have e2:az (x :: xs) false=(x,xs,false):=rfl;rw [e] at HT;rw [e2];clear hc e e2 h
   go_enter Tryd.func90,Tryd.ntmps90
   go_wp2_with fail
   refine (HT.out).mono ?_;rintro e w1 ⟨u,rfl,hu,hr,pH⟩;obtain ⟨uo,uc,eu⟩:=hu.len;subst eu;obtain ⟨_,m8,hat⟩:=hu.spots;obtain ⟨b,off,eo,hb,_,C,hC,hrp⟩:=hat 0 (by simp);subst eo;have c0:=hC 0 (by decide);rw [show C=[.int .u8 x] from hrp] at c0;simp only [List.length_cons,List.length_nil,Nat.zero_add] at m8 ⊢;have c0:w1.cell? ⟨b,off,none⟩=some (.int .u8 x):=c0;have HF:=aa (And.intro hr pH);have h0c:0<uc:=m8;clear hu hr pH hat hC hrp hb;go_wp2;go_ret;exact ⟨_,rfl,rfl,HF.out.1,HF.out.2⟩
theorem bF(s0 g:Nat)(xs:List Int)(bad is:Bool)(w:World)(h:RdAt s0 w g xs bad):Calls Tryd.prog 89 #[.pointer (some ⟨g,0,none⟩),.bool is] w (fun e w'=>e=.returned (.tuple #[])/\RdAt s0 w' g xs (bad || !is)/\Upd (fun b=>b=g) w w'):=by
 obtain ⟨re,hby,v,hh,hu⟩:=h;obtain ⟨b2,hb2⟩:=ab ((bad || !is));obtain ⟨W1,hW1⟩:=ab (w.setCell ⟨g,1,none⟩ (.bool b2));have me:=(Upd.refl (fun b=>b=g) w).setCell (p:=⟨g,1,none⟩) (.inl rfl) (.bool b2);rw [<-hW1] at me;have HF:=aa (show RdAt s0 W1 g xs b2/\Upd (fun b=>b=g) w W1 from ⟨⟨re,hby,v,by rw [hW1];exact hh.set 1 (.bool b2),hu.upd me (fun b hb e=>by omega)⟩,me⟩);have HW:=aa hW1.symm;have q1:=hh.cell 1 _ rfl;have f1:=hh.free 1;rw [<-hb2];clear hW1 me hh hu
 cases bad with
 |true =>
  rw [Bool.true_or] at hb2;subst hb2
  go_enter Tryd.func89,Tryd.ntmps89
  go_wp2;rw [HW.out];exact bodyPost_end (by kernel_rfl) rfl ⟨rfl,HF.out.1,HF.out.2⟩
 |false =>
  rw [Bool.false_or] at hb2;subst hb2
  go_enter Tryd.func89,Tryd.ntmps89
  go_wp2;rw [HW.out];exact bodyPost_end (by kernel_rfl) rfl ⟨rfl,HF.out.1,HF.out.2⟩
end Go.Proofs.YtechjomepdahiaaDoor
