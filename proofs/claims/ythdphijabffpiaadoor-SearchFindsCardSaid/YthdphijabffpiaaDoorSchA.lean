import Derived.Test.YthdphijabffpiaaDoorZ0
import Derived.Test.YthdphijabffpiaaDoorMg6
import Derived.Test.YthdphijabffpiaaDoorMg1
import Derived.Deep.Cut
set_option maxRecDepth 100000
set_option linter.unusedVariables false
set_option linter.unusedSimpArgs false
set_option maxHeartbeats 2500000
namespace Go.Proofs.YthdphijabffpiaaDoor
open Go.RowKit Go.ChangeShapes Go.WideShapes
def pieceE:Elem Pc:=prE (aF .i64) (prE (aF .i64) (slE (aF .i32)))
theorem piece_rep{Z:ak}{w:World}{C:List Value}{x:Pc}:pieceE.rep Z w C x↔∃ tv,C=[.int .i64 x.1,.int .i64 x.2.1,tv]/\HeldE (aF .i32) Z w tv x.2.2:=by
 constructor
 ·rintro ⟨C1,C2,rfl,rfl,C3,C4,rfl,rfl,tv,rfl,h⟩;exact ⟨tv,rfl,h⟩
 ·rintro ⟨tv,rfl,h⟩;exact ⟨[.int .i64 x.1],[.int .i64 x.2.1,tv],rfl,rfl,[.int .i64 x.2.1],[tv],rfl,rfl,tv,rfl,h⟩
def zpc:Pc:=(0,0,[])
theorem dN{Z:ak}{w:World}{ao:Option Addr}{n cap:Nat}{P:List Pc}(h:HeldE pieceE Z w (.slice ao n cap) P):n=P.length/\n<=cap/\∀ i,i<P.length->∃ b off tv,ao=some ⟨b,off,none⟩/\b<w.heap.size/\Z b /\
  w.cell? ⟨b,off+i * 3,none⟩=some (.int .i64 (P.getD i zpc).1)/\w.cell? ⟨b,off+i * 3+1,none⟩=some (.int .i64 (P.getD i zpc).2.1)/\w.cell? ⟨b,off+i * 3+2,none⟩=some tv/\HeldE (aF .i32) Z w tv (P.getD i zpc).2.2:=by
 obtain ⟨h1,h2,h3⟩:=h.spots;refine ⟨h1,h2,fun i hi=>?_⟩;obtain ⟨b,off,rfl,hb,hz,C,hC,hr⟩:=h3 i hi;obtain ⟨tv,rfl,ht⟩:=piece_rep.1 hr;exact ⟨b,off,tv,rfl,hb,hz,hC 0 (by decide),hC 1 (by decide),hC 2 (by decide),ht⟩
theorem ge(P:List Pc)(k:Nat)(h:k<P.length)(S:List Int):aI (P.drop k) S=if (P.getD k zpc).2.2.length=0\/S.length<(P.getD k zpc).2.2.length\/(P.getD k zpc).2.2≠S.take (P.getD k zpc).2.2.length then 0 else if S.drop (P.getD k zpc).2.2.length=[] then 1 else if aI (P.drop (k+1)) (S.drop (P.getD k zpc).2.2.length)=0 then 0 else aI (P.drop (k+1)) (S.drop (P.getD k zpc).2.2.length)+1:=by
 rw [List.drop_eq_getElem_cons h];have:P.getD k zpc=P[k]:=by simp [List.getD,List.getElem?_eq_getElem h]
 rw [this]
 rfl
def dO(P:List Pc)(T:List Int)(k:Nat)(S:List Int):Prop:=aI P T=if aI (P.drop k) S=0 then 0 else k+aI (P.drop k) S
theorem ff(Z Y:ak)(v u:Value)(P:List Pc)(T:List Int)(w:World)(hv:HeldE pieceE Z w v P)(hu:HeldE (aF .i32) Y w u T):Calls Tryd.prog 77 #[v,u] w (Gives w (.int .i64 (aI P T:Nat))):=by
 have hl:=hv.max;obtain ⟨ao,cap,rfl⟩:=hv.len;obtain ⟨_,_,hc⟩:=dN hv;have HC:=aa hc;have HU:=aa hu;obtain ⟨ua,uc,rfl⟩:=hu.len;clear hc hv hu
 go_enter Tryd.func77,Tryd.ntmps77
 go_wp2
 go_loopw [1,10] (fun tv i wr=>∃ (k:Nat) (S:List Int),k<=P.length/\i=.int .i64 k/\HeldE (aF .i32) Y wr tv S/\Hid (dO P T k S)/\Below w.heap.size w wr) (fun _ i _=>P.length - (intOf i).toNat)
 case atStart=>exact ⟨0,T,Nat.zero_le _,rfl,HU.out,aa (by unfold dO;rw [List.drop_zero,Nat.zero_add];split <;> simp_all),Below.refl _ _⟩
 case round =>
  obtain ⟨k,S,hk,rfl,jB,HEA,gW⟩:=hrel;obtain ⟨wo,jy⟩:=ab (wr);subst jy;have gS:=aa gW;have hsm:=jB.max;clear gW;obtain ⟨sa,sc,rfl⟩:=jB.len;have HS:=aa jB;have hscap:S.length<=sc/\sc<=maxLen:=by
   obtain ⟨a,c,e,h1,h2,_⟩:=jB
   cases e
   exact ⟨h1,h2⟩
  clear jB
  by_cases hlt:k<P.length
  ·obtain ⟨b,off,cv,e,hb,_,c0,c1,c2,hh⟩:=HC.out k hlt
   cases e
   have he:=ge P k hlt S;have ni:=HEA.out;unfold dO at ni;obtain ⟨⟨R,M,X⟩,lY⟩ : ∃ y,y=P.getD k zpc:=⟨_,rfl⟩;rw [<-lY] at c0 c1 hh he;simp only at c0 c1 hh he;have HX:=aa hh;have nN:=hh.max;obtain ⟨xa,xc,rfl⟩:=hh.len;have c0:=(gS.out.cell (p:=⟨b,off+k * 3,none⟩) hb).trans c0;have c1:=(gS.out.cell (p:=⟨b,off+k * 3+1,none⟩) hb).trans c1;have c2:=(gS.out.cell (p:=⟨b,off+k * 3+2,none⟩) hb).trans c2;obtain ⟨W1,hW1⟩:=ab (wo.alloc (.cells #[.int .i64 R,.int .i64 M,.slice xa X.length xc] 120));have hb1:Below wo.heap.size wo W1:=by rw [hW1];exact af _ _
   have HH:=aa (show Has W1 wo.heap.size [.int .i64 R,.int .i64 M,.slice xa X.length xc] 120 by rw [hW1];exact Has.new wo _ _);have ia:=aa (gS.out.trans (hb1.mono gS.out.size));have ii:=aa (HS.out.below hb1);have HX1:=aa (HX.out.below ia.out);have HE:=aa he;have HZ:=aa (show aI (P.drop k) S=0->aI P T=0 from fun e=>by rw [ni,if_pos e]);have HN:=aa (show aI (P.drop k) S≠0->aI P T=k+aI (P.drop k) S from fun e=>by rw [ni,if_neg e]);clear lY hh hb hb1 he ni
   go_upto_region 4 with (fail)
   rw [<-hW1];clear hW1 c0 c1 c2;have d2:=HH.out.cell 2 _ rfl
   go_upto_region 5 with (fail)
   have d2:=aC (HH.out.cell 2 _ rfl)
   by_cases hX:X.length=0
   ·have hz:((X.length:Int) == 0)=true:=by rw [beq_iff_eq];omega
    have HR:=aa (show aI P T=0 from HZ.out (HE.out.trans (if_pos (.inl hX))));clear hX;refine aB (by kernel_rfl) (by kernel_rfl) ?_
    repeat (go_big_quiet_step ((fail)))
    refine wpQuiet_nil ?_;intro _ hw';obtain ⟨u,hw''⟩:=hw';subst hw'';have HF:=aa (aS ia.out u);go_wp2;go_ret;rw [HR.out];exact ⟨ae,HF.out⟩
   have hz:((X.length:Int) == 0)=false:=by rw [beq_eq_false_iff_ne];omega
   by_cases hlx:S.length<X.length
   ·have hdx:decide ((S.length:Int)<X.length)=true:=ag (by omega);have HR:=aa (show aI P T=0 from HZ.out (HE.out.trans (if_pos (.inr (.inl hlx)))));clear hX;refine aB (by kernel_rfl) (by kernel_rfl) ?_
    repeat (go_big_quiet_step ((fail)))
    refine wpQuiet_nil ?_;intro _ hw';obtain ⟨u,hw''⟩:=hw';subst hw'';have HF:=aa (aS ia.out u);go_wp2;go_ret;rw [HR.out];exact ⟨ae,HF.out⟩
   have hdx:decide ((S.length:Int)<X.length)=false:=ah (by omega);have nS:HeldE (aF .i32) Y W1 (.slice sa X.length sc) (S.take X.length):=by
    have:=ii.out.part 0 X.length (Nat.zero_le _) (by omega) sa sc (fun h=>⟨h,by obtain ⟨_,c,e,_,_,i6,_⟩:=ii.out;cases e;exact (i6 h).2⟩) (fun b off e _=>by simp [e]) (fun a e=>by rw [e];simp) (by omega) hscap.2
    simpa using this
   have HQ:=aa (fun u:Growth W1=>e5 _ _ X (S.take X.length) (ext W1 u) (HX1.out.below u.ok).ints (nS.below u.ok).ints nN);have ly:0<S.length:=by omega
   obtain ⟨_,_,hsp⟩:=ii.out.spots;obtain ⟨sb,so,rfl,_⟩:=hsp 0 ly;have hxl:X.length<=S.length:=by omega
   have hxsc:X.length<=sc:=by omega
   by_cases hq:X=S.take X.length
   ·have jL:bp X (S.take X.length)=true:=by unfold bp;exact decide_eq_true hq
    rw [jL] at HQ;have nj:=aa (HE.out.trans (if_neg (by rintro (h | h | h);exact hX h;exact hlx h;exact h hq)));clear nS hq jL hX hsp;refine aB (by kernel_rfl) (by kernel_rfl) ?_
    repeat (go_big_quiet_step (((go_at_call 96;exact eG (HQ.out _)))))
    refine wpQuiet_nil ?_;intro _ hw';obtain ⟨u,hw''⟩:=hw';subst hw'';have HF:=aa (aS ia.out u);have hp:=(show HeldE (aF .i32) Y (ext W1 u) (.slice (some ⟨sb,so,none⟩) S.length sc) S from ii.out.below u.ok).part X.length S.length hxl (Nat.le_refl _) (if sc=X.length then some ⟨sb,so,none⟩ else some ⟨sb,so+X.length,none⟩) (sc - X.length) (fun e=>by cases e) (fun b off e hlt=>by cases e;rw [if_neg (by omega)];exact congrArg (fun z=>some (⟨sb,so+z,none⟩ : Addr)) (Nat.mul_one _).symm) (fun _ _=>by split <;> simp) (by omega) (by omega);rw [List.take_of_length_le (by simp)] at hp;have HP:=aa hp;obtain ⟨wx,hwx⟩:=ab (ext W1 u);rw [<-hwx] at HF HP ⊢;clear hwx d2 hp
    by_cases hS:S.drop X.length=[]
    ·have hse:((S.length:Int) - X.length == 0)=true:=by rw [beq_iff_eq];have:=congrArg List.length hS;rw [List.length_drop] at this;simp at this;omega
     have hse2:S.length=X.length:=by have:=congrArg List.length hS;rw [List.length_drop] at this;simp at this;omega
     have kc:IntKind.i64.wrap ((k:Int)+1)=((k+1:Nat):Int):=by rw [IntKind.wrap_i64];omega
     have HR:=aa (show aI P T=k+1 from by
      have h9:aI (P.drop k) S=1:=nj.out.trans (if_pos hS);rw [HN.out (by omega),h9])
     have hsn:S.length - X.length=0:=by omega
     clear hS;go_wp2
     all_goals
      go_ret;rw [HR.out]
      first
       | exact ⟨ae,HF.out⟩
       | exact ⟨by first | rfl | (push_cast;rfl),HF.out⟩
    ·have hsn:S.length - X.length≠0:=fun e=>hS (List.eq_nil_of_length_eq_zero (by rw [List.length_drop];exact e))
     have hsn2:(((S.length - X.length:Nat):Int) == 0)=false:=by rw [beq_eq_false_iff_ne];omega
     have hsn3:((S.length - X.length) == 0)=false:=by rw [beq_eq_false_iff_ne];exact hsn
     have HR:=aa (show dO P T (k+1) (S.drop X.length) from by
      unfold dO;have h9:=nj.out.trans (if_neg hS)
      by_cases h0:aI (P.drop (k+1)) (S.drop X.length)=0
      ·rw [if_pos h0,HZ.out (h9.trans (if_pos h0))]
      ·have h8:=h9.trans (if_neg h0);rw [if_neg h0,HN.out (by omega),h8];omega)
     clear hS;have hnlx:¬ S.length<=X.length:=by omega
     go_wp2
     go_roundw
     case rel=>exact ⟨k+1,S.drop X.length,by omega,by go_num,HP.out,HR,HF.out⟩
     case measure=>simp [intOf] <;> omega
   ·have jL:bp X (S.take X.length)=false:=by unfold bp;exact decide_eq_false hq
    rw [jL] at HQ;have HR:=aa (show aI P T=0 from HZ.out (HE.out.trans (if_pos (.inr (.inr hq)))));clear nS hq jL hX hsp;refine aB (by kernel_rfl) (by kernel_rfl) ?_
    repeat (go_big_quiet_step (((go_at_call 96;exact eG (HQ.out _)))))
    refine wpQuiet_nil ?_;intro _ hw';obtain ⟨u,hw''⟩:=hw';subst hw'';have HF:=aa (aS ia.out u);go_wp2;go_ret;rw [HR.out];exact ⟨ae,HF.out⟩
  ·obtain rfl:k=P.length:=by omega
   have HR:=aa (show aI P T=0 by
    have h:=HEA.out;unfold dO at h;rw [List.drop_length] at h;rw [h];rfl)
   go_wp2;go_ret;rw [HR.out];exact ⟨ae,gS.out⟩
end Go.Proofs.YthdphijabffpiaaDoor
