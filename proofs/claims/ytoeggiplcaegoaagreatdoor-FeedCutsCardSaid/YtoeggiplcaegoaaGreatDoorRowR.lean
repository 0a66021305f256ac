import Derived.Test.YtoeggiplcaegoaaGreatDoorZ0
import Derived.Test.YtoeggiplcaegoaaGreatDoorMg1
import Derived.Deep.Cut
import Derived.Deep.CutRange
set_option maxRecDepth 100000
set_option linter.unusedVariables false
set_option linter.unusedSimpArgs false
set_option maxHeartbeats 8000000
namespace Go.Proofs.YtoeggiplcaegoaaGreatDoor
open Go.RowKit Go.ChangeShapes Go.WideShapes
def sL(Z:an)(w:World)(L':List Cl)(b:Bool)(e:Ending)(w':World):Prop:=∃ v',e=.returned (.tuple #[v',.bool b])/\OwnE cellE Z w' w.heap.size 147 v' L'/\Below w.heap.size w w'
theorem rZ(L p:List Cl)(a k:Nat)(h:k<L.length):(aN L p a).take (k+1)=(aN L p a).take k++[bO L p a k]:=by
 rw [List.take_succ_eq_append_getElem (by rw [bR];exact h)]
 simp [aN]
def dj(L p:List Cl)(a:Nat)(wrap:Bool)(k:Nat):Bool:=if k=L.length then wrap && !a8 L p a else wrap
theorem oU{Z:an}{wr W1:World}{B:Nat}{ov:Value}{Lk:List Cl}{K:Int}{tv:Value}{T:List Int}(hB:B<=wr.heap.size)(h1:Below wr.heap.size wr W1)(ho:OwnE cellE Z wr B 147 ov Lk)(hz:∀ b,B<=b->Z b)(ht:HeldE (aF .i32) (fun b=>Z b/\b<B) W1 tv T) :
  OwnE cellE Z (W1.alloc (.cells [Value.int .i64 K,tv].toArray 147)) B 147 ov Lk/\HeldE cellE (fun b=>Z b/\ov.ownBlock≠some b) (W1.alloc (.cells [Value.int .i64 K,tv].toArray 147)) (.slice (some ⟨W1.heap.size,0,none⟩) 1 1) [(K,T)]:=by
 have BJ:=ho.lt;have hs:=h1.size;refine ⟨(ho.below h1).below (AU _ _),aT [.int .i64 K,tv] (K,T) (Y:=fun b=>Z b/\b<B) (cell_rep.2 ⟨_,rfl,ht⟩) (fun b _ h=>⟨h.1,fun e=>by have:=(BJ b e).1;omega⟩) ⟨hz _ (by omega),fun e=>by have:=(BJ _ e).2;omega⟩⟩
theorem iX{L p:List Cl}{a k:Nat}(h:k+1=L.length):a8 L p a=(decide (inP a p.length k) || decide (bW L a p.length k)):=by
 unfold a8;rw [show L.length - 1=k by omega]
theorem qj(Z:an)(v u:Value)(L p:List Cl)(wrap:Bool)(a:Nat)(w:World)(hZ:∀ b,w.heap.size<=b->Z b)(hv:HeldE cellE Z w v L)(hu:HeldE cellE Z w u p)(Dt:0<L.length)(hl:L.length<=1000000)(hle:a+p.length<=L.length) :
  Calls Tryz.prog 195 #[v,.bool wrap,.int .i64 a,u] w (sL Z w (aN L p a) (wrap && !a8 L p a)):=by
 have hv:=hv.zone (Y:=fun b=>Z b/\b<w.heap.size) (fun b hb hz=>⟨hz,hb⟩);have hu:=hu.zone (Y:=fun b=>Z b/\b<w.heap.size) (fun b hb hz=>⟨hz,hb⟩);obtain ⟨ao,ca,rfl⟩:=hv.len;obtain ⟨bo,cb,rfl⟩:=hu.len;obtain ⟨_,_,hc⟩:=fq hv;obtain ⟨_,_,hd⟩:=fq hu;have HC:=ab hc;have HD:=ab hd;have HZ:=ab hZ;clear hc hd hv hu hZ
 go_enter Tryz.func195,Tryz.ntmps195
 go_wp2
 go_loopw [1,10,11] (fun wv o i wr=>∃ k:Nat,k<=L.length/\i=.int .i64 k/\wv=.bool (dj L p a wrap k)/\OwnE cellE Z wr w.heap.size 147 o ((aN L p a).take k)/\Below w.heap.size w wr) (fun _ _ i _=>L.length - (intOf i).toNat)
 case atStart=>exact ⟨0,Nat.zero_le _,rfl,by unfold dj;rw [if_neg (by omega)],OwnE.nil _ _ _ _ _,Below.refl _ _⟩
 case round =>
  obtain ⟨k,hk,rfl,rfl,hown,AY⟩:=hrel;have Bf:=ab AY;clear AY
  by_cases hlt:k<L.length
  ·obtain ⟨b,off,tv,rfl,hb,_,c0,c1,hh⟩:=HC.out k hlt;have c0:=(Bf.out.cell (p:=⟨b,off+k * 2,none⟩) hb).trans c0;have c1:=(Bf.out.cell (p:=⟨b,off+k * 2+1,none⟩) hb).trans c1;have hb1:b<wr.heap.size:=Nat.lt_of_lt_of_le hb Bf.out.size;have Nr:=rZ L p a k hlt;have Kt:dj L p a wrap k=wrap:=by unfold dj;rw [if_neg (by omega)]
   rw [Kt];have BJ:=hown.lt;have HLEN:=ab (show ((aN L p a).take k).length<=1000000 by simp [bR];omega);have HOW:=ab hown;have BH:=ab BJ;have Ny:=ab Nr;obtain ⟨⟨K,T⟩,EV⟩ : ∃ y,y=L.getD k zc:=⟨_,rfl⟩;have Ps:=ab (show K=(L.getD k zc).1 by rw [<-EV]);have Ot:=ab EV.symm;rw [<-EV] at c0 hh;simp only at c0 hh;have Pf:=ab hh;obtain ⟨ta,tc,rfl⟩:=hh.len;clear hown BJ Nr hh Kt EV;have Da:IntKind.i64.wrap ((a:Int)+p.length)=(a:Int)+p.length:=by rw [IntKind.wrap_i64];omega
   have hw2:IntKind.i64.wrap ((k:Int)+1)=(k:Int)+1:=by rw [IntKind.wrap_i64];omega
   have hw3:IntKind.i64.wrap ((k:Int) - 1)=(k:Int) - 1:=by rw [IntKind.wrap_i64];omega
   go_upto_region 5 with (fail)
   go_cut [12] from 21 to 31 (fun t wx=>t=.bool (decide (inP a p.length k))/\wx=wr)
   case first =>
    by_cases h1:a<=k
    ·by_cases h2:k<a+p.length
     ·have h3:(k:Int)<(a:Int)+p.length:=by omega
      have HI:=ab (decide_eq_true (show inP a p.length k from ⟨h1,h2⟩));go_wp2;go_meet
      case rel=>exact ⟨by rw [HI.out];try rfl,rfl⟩
     ·have h3:¬ (k:Int)<(a:Int)+p.length:=by omega
      have HI:=ab (decide_eq_false (show ¬ inP a p.length k from fun h=>h2 h.2));go_wp2;go_meet
      case rel=>exact ⟨by rw [HI.out];try rfl,rfl⟩
    ·have HI:=ab (decide_eq_false (show ¬ inP a p.length k from fun h=>h1 h.1));go_wp2;go_meet
     case rel=>exact ⟨by rw [HI.out];try rfl,rfl⟩
   case rest =>
    obtain ⟨rfl,hwc⟩:=hcut;subst hwc
    by_cases Ce:inP a p.length k
    ·obtain ⟨h1,h2⟩:=id Ce;obtain ⟨b2,off2,tv2,rfl,hb2,_,d0,d1,E5⟩:=HD.out (k - a) (by omega);have d0:=(Bf.out.cell (p:=⟨b2,off2+(k - a) * 2,none⟩) hb2).trans d0;have d1:=(Bf.out.cell (p:=⟨b2,off2+(k - a) * 2+1,none⟩) hb2).trans d1;have hb3:b2<wc.heap.size:=Nat.lt_of_lt_of_le hb2 Bf.out.size;have hka:((k:Int) - (a:Int)).toNat=k - a:=by omega
     have hka0:(0:Int)<=(k:Int) - a:=by omega
     have hka1:(k:Int) - a<p.length:=by omega
     have hwka:IntKind.i64.wrap ((k:Int) - (a:Int))=(k:Int) - a:=by rw [IntKind.wrap_i64];omega
     have Jy:=ab (show (decide (inP a p.length k) || decide (bW L a p.length k))=true by rw [decide_eq_true Ce];rfl);obtain ⟨⟨K2,T2⟩,hK2⟩ : ∃ y,y=p.getD (k - a) zc:=⟨_,rfl⟩;have I7:=ab (show bO L p a k=(K2,T2) by unfold bO;rw [if_pos Ce,<-hK2]);rw [<-hK2] at d0 E5;simp only at d0 E5;have G2:=ab E5;obtain ⟨ta2,tc2,rfl⟩:=E5.len;rw [decide_eq_true Ce];clear hK2 E5 Ce;have C4:=AU wc (.cells #[.int .i64 K2,.slice ta2 T2.length tc2] 147);obtain ⟨LS,JL⟩:=oU (K:=K2) Bf.out.size C4 HOW.out HZ.out (G2.out.below (Bf.out.trans (C4.mono Bf.out.size)));rw [World.size_alloc] at JL;have GG:=ab LS;have Lz:=ab JL;have Ga:=ab ((Bf.out.trans (C4.mono Bf.out.size)).alloc (Bf.out.trans (C4.mono Bf.out.size)).size (.cells [.int .i64 K2,.slice ta2 T2.length tc2].toArray 147));have KI:=ab (show bO L p a k=(K2,T2) from I7.out);clear LS JL C4
     by_cases hlast:k+1=L.length
     ·have Ol:((k:Int)+1 == (L.length:Int))=true:=by rw [beq_iff_eq];omega
      have GH:=ab (show dj L p a wrap (k+1)=(wrap && !true) by unfold dj;rw [if_pos hlast,iX hlast,Jy.out]);clear hlast
      go_wp2_with (at_builtin;refine ax (E:=cellE) (Z:=Z) rfl (.tmp 98) (.tmp 100) 102 rfl (.agg #[.int .i64 0,.slice none 0 0]) 32 Tryz.underlying102 cF rfl (by decide) rfl rfl GG.out Lz.out (by have:=HLEN.out;simp only [List.length_cons,List.length_nil];omega) (by have:=HLEN.out;simp only [List.length_cons,List.length_nil];omega) Ga.out.size ?_)
      intro v2 w2 BE hb2 _ _;rw [<-KI.out,<-Ny.out] at BE;have H2:=ab BE;have H3:=ab (Ga.out.trans hb2);clear BE hb2;go_wp2
      go_roundw
      case rel=>exact ⟨k+1,by omega,by go_num,by rw [GH.out];try (cases wrap <;> rfl),H2.out,H3.out⟩
      case measure=>simp [intOf] <;> omega
     ·have Ol:((k:Int)+1 == (L.length:Int))=false:=by rw [beq_eq_false_iff_ne];omega
      have GH:=ab (show dj L p a wrap (k+1)=wrap by unfold dj;rw [if_neg hlast]);clear hlast
      go_wp2_with (at_builtin;refine ax (E:=cellE) (Z:=Z) rfl (.tmp 98) (.tmp 100) 102 rfl (.agg #[.int .i64 0,.slice none 0 0]) 32 Tryz.underlying102 cF rfl (by decide) rfl rfl GG.out Lz.out (by have:=HLEN.out;simp only [List.length_cons,List.length_nil];omega) (by have:=HLEN.out;simp only [List.length_cons,List.length_nil];omega) Ga.out.size ?_)
      intro v2 w2 BE hb2 _ _;rw [<-KI.out,<-Ny.out] at BE;have H2:=ab BE;have H3:=ab (Ga.out.trans hb2);clear BE hb2;go_wp2
      go_roundw
      case rel=>exact ⟨k+1,by omega,by go_num,by rw [GH.out];try (cases wrap <;> rfl),H2.out,H3.out⟩
      case measure=>simp [intOf] <;> omega
    ·rw [decide_eq_false Ce];have hin2:k<a\/a+p.length<=k:=by
      rcases Nat.lt_or_ge k a with h | h
      ·exact .inl h
      ·exact .inr (by rcases Nat.lt_or_ge k (a+p.length) with h2 | h2;exact absurd ⟨h,h2⟩ Ce;exact h2)
     have Gp:=ab Ce;clear Ce
     go_upto_region 9 with (fail)
     go_cut [14] from 44 to 84 (fun t wx=>t=.bool (decide (bW L a p.length k))/\wx=wc.alloc (.cells #[.int .i64 K,.slice ta T.length tc] 147))
     case first =>
      have Mh:(K=2/\(K == 2)=true/\(K == 3)=false)\/(K=3/\(K == 3)=true/\(K == 2)=false)\/((K == 3)=false/\(K == 2)=false/\K≠2/\K≠3):=by
       by_cases h2:K=2
       ·exact .inl ⟨h2,by simpa using h2,by simp;omega⟩
       ·by_cases h3:K=3
        ·exact .inr (.inl ⟨h3,by simpa using h3,by simp;omega⟩)
        ·exact .inr (.inr ⟨by simpa using h3,by simpa using h2,h2,h3⟩)
      have LF:=ab (show K=2->(decide (bW L a p.length k)=decide (inP a p.length (k+1))) from fun h=>by
       have h:=Ps.out.symm.trans h;refine decide_eq_decide.2 ⟨?_,fun h'=>.inl ⟨h,h'⟩⟩;rintro (⟨_,h'⟩ | ⟨h3,_⟩)
       ·exact h'
       ·rw [h] at h3;cases h3)
      have KJ:=ab (show K=3->(decide (bW L a p.length k)=decide (0<k/\inP a p.length (k - 1))) from fun h=>by
       have h:=Ps.out.symm.trans h;refine decide_eq_decide.2 ⟨?_,fun h'=>.inr ⟨h,h'.1,h'.2⟩⟩;rintro (⟨h3,_⟩ | ⟨_,h',h''⟩)
       ·rw [h] at h3;cases h3
       ·exact ⟨h',h''⟩)
      have HT0:=ab (show K≠2->K≠3->decide (bW L a p.length k)=false from fun h1 h2=>by
       rw [Ps.out] at h1 h2;rw [decide_eq_false_iff_not];rintro (⟨k1,_⟩ | ⟨k1,_⟩)
       ·exact h1 k1
       ·exact h2 k1)
      clear hin2
      rcases Mh with ⟨rfl,q2,q3⟩ | ⟨rfl,q3,q2⟩ | ⟨q3,q2,n2,n3⟩
      ·by_cases h1:a<=k+1
       ·have PE:(a:Int)<=(k:Int)+1:=by omega
        by_cases h2:k+1<a+p.length
        ·have Kf:(k:Int)+1<(a:Int)+p.length:=by omega
         have HV:=ab (decide_eq_true (show inP a p.length (k+1) from ⟨h1,h2⟩));go_wp2;go_meet
         case rel=>exact ⟨by rw [LF.out (by first | rfl | trivial),HV.out];try rfl,rfl⟩
        ·have Kf:¬ (k:Int)+1<(a:Int)+p.length:=by omega
         have HV:=ab (decide_eq_false (show ¬ inP a p.length (k+1) from fun h=>h2 h.2));go_wp2;go_meet
         case rel=>exact ⟨by rw [LF.out (by first | rfl | trivial),HV.out];try rfl,rfl⟩
       ·have PE:¬ (a:Int)<=(k:Int)+1:=by omega
        have HV:=ab (decide_eq_false (show ¬ inP a p.length (k+1) from fun h=>h1 h.1));go_wp2;go_meet
        case rel=>exact ⟨by rw [LF.out (by first | rfl | trivial),HV.out];try rfl,rfl⟩
      ·by_cases h1:(a:Int)<=(k:Int) - 1
       ·by_cases h2:(k:Int) - 1<(a:Int)+p.length
        ·have HV:=ab (decide_eq_true (show 0<k/\inP a p.length (k - 1) from ⟨by omega,by omega,by omega⟩));go_wp2;go_meet
         case rel=>exact ⟨by rw [KJ.out (by first | rfl | trivial),HV.out];try rfl,rfl⟩
        ·have HV:=ab (decide_eq_false (show ¬ (0<k/\inP a p.length (k - 1)) from fun h=>h2 (by have:=h.2.2;omega)));go_wp2;go_meet
         case rel=>exact ⟨by rw [KJ.out (by first | rfl | trivial),HV.out];try rfl,rfl⟩
       ·have HV:=ab (decide_eq_false (show ¬ (0<k/\inP a p.length (k - 1)) from fun h=>h1 (by have:=h.1;have:=h.2.1;omega)));go_wp2;go_meet
        case rel=>exact ⟨by rw [KJ.out (by first | rfl | trivial),HV.out];try rfl,rfl⟩
      ·go_wp2;go_meet
       case rel=>exact ⟨by rw [HT0.out n2 n3];try rfl,rfl⟩
     case rest =>
      obtain ⟨rfl,hwd⟩:=hcut;subst hwd;clear hin2
      by_cases ht:bW L a p.length k
      ·rw [decide_eq_true ht];have Jy:=ab (show (decide (inP a p.length k) || decide (bW L a p.length k))=true by rw [decide_eq_true ht];simp);have I7:=ab (show bO L p a k=(0,[]) by unfold bO;rw [if_neg Gp.out,if_pos ht]);clear ht;have C4:=AU wc (.cells #[.int .i64 0,.slice none 0 0] 147);obtain ⟨LS,JL⟩:=oU (K:=0) Bf.out.size C4 HOW.out HZ.out (HeldE.nil _ _ _);rw [World.size_alloc] at JL;have GG:=ab LS;have Lz:=ab JL;have Ga:=ab ((Bf.out.trans (C4.mono Bf.out.size)).alloc (Bf.out.trans (C4.mono Bf.out.size)).size (.cells [.int .i64 0,.slice none 0 0].toArray 147));have KI:=ab (show bO L p a k=(0,[]) from I7.out);clear LS JL C4
       by_cases hlast:k+1=L.length
       ·have Ol:((k:Int)+1 == (L.length:Int))=true:=by rw [beq_iff_eq];omega
        have GH:=ab (show dj L p a wrap (k+1)=(wrap && !true) by unfold dj;rw [if_pos hlast,iX hlast,Jy.out]);clear hlast
        go_wp2_with (at_builtin;refine ax (E:=cellE) (Z:=Z) rfl (.tmp 98) (.tmp 100) 102 rfl (.agg #[.int .i64 0,.slice none 0 0]) 32 Tryz.underlying102 cF rfl (by decide) rfl rfl GG.out Lz.out (by have:=HLEN.out;simp only [List.length_cons,List.length_nil];omega) (by have:=HLEN.out;simp only [List.length_cons,List.length_nil];omega) Ga.out.size ?_)
        intro v2 w2 BE hb2 _ _;rw [<-KI.out,<-Ny.out] at BE;have H2:=ab BE;have H3:=ab (Ga.out.trans hb2);clear BE hb2;go_wp2
        go_roundw
        case rel=>exact ⟨k+1,by omega,by go_num,by rw [GH.out];try (cases wrap <;> rfl),H2.out,H3.out⟩
        case measure=>simp [intOf] <;> omega
       ·have Ol:((k:Int)+1 == (L.length:Int))=false:=by rw [beq_eq_false_iff_ne];omega
        have GH:=ab (show dj L p a wrap (k+1)=wrap by unfold dj;rw [if_neg hlast]);clear hlast
        go_wp2_with (at_builtin;refine ax (E:=cellE) (Z:=Z) rfl (.tmp 98) (.tmp 100) 102 rfl (.agg #[.int .i64 0,.slice none 0 0]) 32 Tryz.underlying102 cF rfl (by decide) rfl rfl GG.out Lz.out (by have:=HLEN.out;simp only [List.length_cons,List.length_nil];omega) (by have:=HLEN.out;simp only [List.length_cons,List.length_nil];omega) Ga.out.size ?_)
        intro v2 w2 BE hb2 _ _;rw [<-KI.out,<-Ny.out] at BE;have H2:=ab BE;have H3:=ab (Ga.out.trans hb2);clear BE hb2;go_wp2
        go_roundw
        case rel=>exact ⟨k+1,by omega,by go_num,by rw [GH.out];try (cases wrap <;> rfl),H2.out,H3.out⟩
        case measure=>simp [intOf] <;> omega
      ·rw [decide_eq_false ht];have Jy:=ab (show (decide (inP a p.length k) || decide (bW L a p.length k))=false by rw [decide_eq_false ht,decide_eq_false Gp.out];rfl);have I7:=ab (show bO L p a k=(K,T) by unfold bO;rw [if_neg Gp.out,if_neg ht];exact Ot.out);clear ht;have C4:=AU wc (.cells #[.int .i64 K,.slice ta T.length tc] 147);obtain ⟨LS,JL⟩:=oU (K:=K) Bf.out.size C4 HOW.out HZ.out (Pf.out.below (Bf.out.trans (C4.mono Bf.out.size)));rw [World.size_alloc] at JL;have GG:=ab LS;have Lz:=ab JL;have Ga:=ab ((Bf.out.trans (C4.mono Bf.out.size)).alloc (Bf.out.trans (C4.mono Bf.out.size)).size (.cells [.int .i64 K,.slice ta T.length tc].toArray 147));have KI:=ab (show bO L p a k=(K,T) from I7.out);clear LS JL C4
       by_cases hlast:k+1=L.length
       ·have Ol:((k:Int)+1 == (L.length:Int))=true:=by rw [beq_iff_eq];omega
        have GH:=ab (show dj L p a wrap (k+1)=(wrap && !false) by unfold dj;rw [if_pos hlast,iX hlast,Jy.out]);clear hlast
        go_wp2_with (at_builtin;refine ax (E:=cellE) (Z:=Z) rfl (.tmp 98) (.tmp 100) 102 rfl (.agg #[.int .i64 0,.slice none 0 0]) 32 Tryz.underlying102 cF rfl (by decide) rfl rfl GG.out Lz.out (by have:=HLEN.out;simp only [List.length_cons,List.length_nil];omega) (by have:=HLEN.out;simp only [List.length_cons,List.length_nil];omega) Ga.out.size ?_)
        intro v2 w2 BE hb2 _ _;rw [<-KI.out,<-Ny.out] at BE;have H2:=ab BE;have H3:=ab (Ga.out.trans hb2);clear BE hb2;go_wp2
        go_roundw
        case rel=>exact ⟨k+1,by omega,by go_num,by rw [GH.out];try (cases wrap <;> rfl),H2.out,H3.out⟩
        case measure=>simp [intOf] <;> omega
       ·have Ol:((k:Int)+1 == (L.length:Int))=false:=by rw [beq_eq_false_iff_ne];omega
        have GH:=ab (show dj L p a wrap (k+1)=wrap by unfold dj;rw [if_neg hlast]);clear hlast
        go_wp2_with (at_builtin;refine ax (E:=cellE) (Z:=Z) rfl (.tmp 98) (.tmp 100) 102 rfl (.agg #[.int .i64 0,.slice none 0 0]) 32 Tryz.underlying102 cF rfl (by decide) rfl rfl GG.out Lz.out (by have:=HLEN.out;simp only [List.length_cons,List.length_nil];omega) (by have:=HLEN.out;simp only [List.length_cons,List.length_nil];omega) Ga.out.size ?_)
        intro v2 w2 BE hb2 _ _;rw [<-KI.out,<-Ny.out] at BE;have H2:=ab BE;have H3:=ab (Ga.out.trans hb2);clear BE hb2;go_wp2
        go_roundw
        case rel=>exact ⟨k+1,by omega,by go_num,by rw [GH.out];try (cases wrap <;> rfl),H2.out,H3.out⟩
        case measure=>simp [intOf] <;> omega
  ·obtain rfl:k=L.length:=by omega
   have hw:dj L p a wrap L.length=(wrap && !a8 L p a):=by unfold dj;rw [if_pos rfl]
   rw [hw];rw [List.take_of_length_le (by rw [bR];exact Nat.le_refl _)] at hown;have HO:=ab hown;clear hown hw;go_wp2
   go_ret2
   exact ⟨_,rfl,HO.out,Bf.out⟩
end Go.Proofs.YtoeggiplcaegoaaGreatDoor
