import Derived.Test.YtoeggiplcaegoaaGreatDoorZ0
import Derived.Test.YtoeggiplcaegoaaGreatDoorMg1
import Derived.Deep.Cut
import Derived.Deep.CutRange
set_option maxRecDepth 100000
set_option linter.unusedVariables false
set_option linter.unusedSimpArgs false
set_option maxHeartbeats 8000000
namespace Go.Proofs.YtoeggiplcaegoaaGreatDoor
open Go.RowKit Go.ChangeShapes Go.WideShapes
def rV(Z:an)(w:World)(L':List Cl)(b:Bool)(e:Ending)(w':World):Prop:=∃ v',e=.returned (.tuple #[v',.bool b])/\OwnE cellE Z w' w.heap.size 147 v' L'/\Below w.heap.size w w'
theorem rk(L p:List Cl)(a k:Nat)(h:k<L.length):(aM L p a).take (k+1)=(aM L p a).take k++[bP L p a k]:=by
 rw [List.take_succ_eq_append_getElem (by rw [bR];exact h)]
 simp [aM]
def df(L p:List Cl)(a:Nat)(wrap:Bool)(k:Nat):Bool:=if k=L.length then wrap && !bd L p a else wrap
theorem ou{Z:an}{wr W1:World}{B:Nat}{ov:Value}{Lk:List Cl}{K:Int}{tv:Value}{T:List Int}(hB:B<=wr.heap.size)(h1:Below wr.heap.size wr W1)(ho:OwnE cellE Z wr B 147 ov Lk)(hz:∀ b,B<=b->Z b)(ht:HeldE (aE .i32) (fun b=>Z b/\b<B) W1 tv T) :
  OwnE cellE Z (W1.alloc (.cells [Value.int .i64 K,tv].toArray 147)) B 147 ov Lk/\HeldE cellE (fun b=>Z b/\ov.ownBlock≠some b) (W1.alloc (.cells [Value.int .i64 K,tv].toArray 147)) (.slice (some ⟨W1.heap.size,0,none⟩) 1 1) [(K,T)]:=by
 have AF:=ho.lt;have hs:=h1.size;refine ⟨(ho.below h1).below (zI _ _),aO [.int .i64 K,tv] (K,T) (Y:=fun b=>Z b/\b<B) (cell_rep.2 ⟨_,rfl,ht⟩) (fun b _ h=>⟨h.1,fun e=>by have:=(AF b e).1;omega⟩) ⟨hz _ (by omega),fun e=>by have:=(AF _ e).2;omega⟩⟩
theorem iQ{L p:List Cl}{a k:Nat}(h:k+1=L.length):bd L p a=(decide (inP a p.length k) || decide (bW L a p.length k)):=by
 unfold bd;rw [show L.length - 1=k by omega]
theorem pN(Z:an)(v u:Value)(L p:List Cl)(wrap:Bool)(a:Nat)(w:World)(hZ:∀ b,w.heap.size<=b->Z b)(hv:HeldE cellE Z w v L)(hu:HeldE cellE Z w u p)(Ci:0<L.length)(hl:L.length<=1000000)(hle:a+p.length<=L.length) :
  Calls Tryz.prog 195 #[v,.bool wrap,.int .i64 a,u] w (rV Z w (aM L p a) (wrap && !bd L p a)):=by
 have hv:=hv.zone (Y:=fun b=>Z b/\b<w.heap.size) (fun b hb hz=>⟨hz,hb⟩);have hu:=hu.zone (Y:=fun b=>Z b/\b<w.heap.size) (fun b hb hz=>⟨hz,hb⟩);obtain ⟨ao,ca,rfl⟩:=hv.len;obtain ⟨bo,cb,rfl⟩:=hu.len;obtain ⟨_,_,hc⟩:=fl hv;obtain ⟨_,_,hd⟩:=fl hu;have HC:=ab hc;have HD:=ab hd;have HZ:=ab hZ;clear hc hd hv hu hZ
 go_enter Tryz.func195,Tryz.ntmps195
 go_wp2
 go_loopw [1,10,11] (fun wv o i wr=>∃ k:Nat,k<=L.length/\i=.int .i64 k/\wv=.bool (df L p a wrap k)/\OwnE cellE Z wr w.heap.size 147 o ((aM L p a).take k)/\Below w.heap.size w wr) (fun _ _ i _=>L.length - (intOf i).toNat)
 case atStart=>exact ⟨0,Nat.zero_le _,rfl,by unfold df;rw [if_neg (by omega)],OwnE.nil _ _ _ _ _,Below.refl _ _⟩
 case round =>
  obtain ⟨k,hk,rfl,rfl,hown,zN⟩:=hrel;have z5:=ab zN;clear zN
  by_cases hlt:k<L.length
  ·obtain ⟨b,off,tv,rfl,hb,_,c0,c1,hh⟩:=HC.out k hlt;have c0:=(z5.out.cell (p:=⟨b,off+k * 2,none⟩) hb).trans c0;have c1:=(z5.out.cell (p:=⟨b,off+k * 2+1,none⟩) hb).trans c1;have hb1:b<wr.heap.size:=Nat.lt_of_lt_of_le hb z5.out.size;have Mp:=rk L p a k hlt;have KA:df L p a wrap k=wrap:=by unfold df;rw [if_neg (by omega)]
   rw [KA];have AF:=hown.lt;have HLEN:=ab (show ((aM L p a).take k).length<=1000000 by simp [bR];omega);have HOW:=ab hown;have AD:=ab AF;have Mq:=ab Mp;obtain ⟨⟨K,T⟩,Er⟩ : ∃ y,y=L.getD k zc:=⟨_,rfl⟩;have Oj:=ab (show K=(L.getD k zc).1 by rw [<-Er]);have M8:=ab Er.symm;rw [<-Er] at c0 hh;simp only at c0 hh;have NS:=ab hh;obtain ⟨ta,tc,rfl⟩:=hh.len;clear hown AF Mp hh KA Er;have Cd:IntKind.i64.wrap ((a:Int)+p.length)=(a:Int)+p.length:=by rw [IntKind.wrap_i64];omega
   have hw2:IntKind.i64.wrap ((k:Int)+1)=(k:Int)+1:=by rw [IntKind.wrap_i64];omega
   have hw3:IntKind.i64.wrap ((k:Int) - 1)=(k:Int) - 1:=by rw [IntKind.wrap_i64];omega
   go_upto_region 5 with (fail)
   go_cut [12] from 21 to 31 (fun t wx=>t=.bool (decide (inP a p.length k))/\wx=wr)
   case first =>
    by_cases h1:a<=k
    ·by_cases h2:k<a+p.length
     ·have h3:(k:Int)<(a:Int)+p.length:=by omega
      have HI:=ab (decide_eq_true (show inP a p.length k from ⟨h1,h2⟩));go_wp2;go_meet
      case rel=>exact ⟨by rw [HI.out];try rfl,rfl⟩
     ·have h3:¬ (k:Int)<(a:Int)+p.length:=by omega
      have HI:=ab (decide_eq_false (show ¬ inP a p.length k from fun h=>h2 h.2));go_wp2;go_meet
      case rel=>exact ⟨by rw [HI.out];try rfl,rfl⟩
    ·have HI:=ab (decide_eq_false (show ¬ inP a p.length k from fun h=>h1 h.1));go_wp2;go_meet
     case rel=>exact ⟨by rw [HI.out];try rfl,rfl⟩
   case rest =>
    obtain ⟨rfl,hwc⟩:=hcut;subst hwc
    by_cases Bb:inP a p.length k
    ·obtain ⟨h1,h2⟩:=id Bb;obtain ⟨b2,off2,tv2,rfl,hb2,_,d0,d1,Ge⟩:=HD.out (k - a) (by omega);have d0:=(z5.out.cell (p:=⟨b2,off2+(k - a) * 2,none⟩) hb2).trans d0;have d1:=(z5.out.cell (p:=⟨b2,off2+(k - a) * 2+1,none⟩) hb2).trans d1;have hb3:b2<wc.heap.size:=Nat.lt_of_lt_of_le hb2 z5.out.size;have hka:((k:Int) - (a:Int)).toNat=k - a:=by omega
     have hka0:(0:Int)<=(k:Int) - a:=by omega
     have hka1:(k:Int) - a<p.length:=by omega
     have hwka:IntKind.i64.wrap ((k:Int) - (a:Int))=(k:Int) - a:=by rw [IntKind.wrap_i64];omega
     have JX:=ab (show (decide (inP a p.length k) || decide (bW L a p.length k))=true by rw [decide_eq_true Bb];rfl);obtain ⟨⟨K2,T2⟩,hK2⟩ : ∃ y,y=p.getD (k - a) zc:=⟨_,rfl⟩;have I3:=ab (show bP L p a k=(K2,T2) by unfold bP;rw [if_pos Bb,<-hK2]);rw [<-hK2] at d0 Ge;simp only at d0 Ge;have IU:=ab Ge;obtain ⟨ta2,tc2,rfl⟩:=Ge.len;rw [decide_eq_true Bb];clear hK2 Ge Bb;have BR:=zI wc (.cells #[.int .i64 K2,.slice ta2 T2.length tc2] 147);obtain ⟨KX,Jv⟩:=ou (K:=K2) z5.out.size BR HOW.out HZ.out (IU.out.below (z5.out.trans (BR.mono z5.out.size)));rw [World.size_alloc] at Jv;have Gn:=ab KX;have KU:=ab Jv;have FR:=ab ((z5.out.trans (BR.mono z5.out.size)).alloc (z5.out.trans (BR.mono z5.out.size)).size (.cells [.int .i64 K2,.slice ta2 T2.length tc2].toArray 147));have Lb:=ab (show bP L p a k=(K2,T2) from I3.out);clear KX Jv BR
     by_cases hlast:k+1=L.length
     ·have LG:((k:Int)+1 == (L.length:Int))=true:=by rw [beq_iff_eq];omega
      have IB:=ab (show df L p a wrap (k+1)=(wrap && !true) by unfold df;rw [if_pos hlast,iQ hlast,JX.out]);clear hlast
      go_wp2_with (at_builtin;refine aw (E:=cellE) (Z:=Z) rfl (.tmp 98) (.tmp 100) 102 rfl (.agg #[.int .i64 0,.slice none 0 0]) 32 Tryz.underlying102 cD rfl (by decide) rfl rfl Gn.out KU.out (by have:=HLEN.out;simp only [List.length_cons,List.length_nil];omega) (by have:=HLEN.out;simp only [List.length_cons,List.length_nil];omega) FR.out.size ?_)
      intro v2 w2 Ap hb2 _ _;rw [<-Lb.out,<-Mq.out] at Ap;have H2:=ab Ap;have H3:=ab (FR.out.trans hb2);clear Ap hb2;go_wp2
      go_roundw
      case rel=>exact ⟨k+1,by omega,by go_num,by rw [IB.out];try (cases wrap <;> rfl),H2.out,H3.out⟩
      case measure=>simp [intOf] <;> omega
     ·have LG:((k:Int)+1 == (L.length:Int))=false:=by rw [beq_eq_false_iff_ne];omega
      have IB:=ab (show df L p a wrap (k+1)=wrap by unfold df;rw [if_neg hlast]);clear hlast
      go_wp2_with (at_builtin;refine aw (E:=cellE) (Z:=Z) rfl (.tmp 98) (.tmp 100) 102 rfl (.agg #[.int .i64 0,.slice none 0 0]) 32 Tryz.underlying102 cD rfl (by decide) rfl rfl Gn.out KU.out (by have:=HLEN.out;simp only [List.length_cons,List.length_nil];omega) (by have:=HLEN.out;simp only [List.length_cons,List.length_nil];omega) FR.out.size ?_)
      intro v2 w2 Ap hb2 _ _;rw [<-Lb.out,<-Mq.out] at Ap;have H2:=ab Ap;have H3:=ab (FR.out.trans hb2);clear Ap hb2;go_wp2
      go_roundw
      case rel=>exact ⟨k+1,by omega,by go_num,by rw [IB.out];try (cases wrap <;> rfl),H2.out,H3.out⟩
      case measure=>simp [intOf] <;> omega
    ·rw [decide_eq_false Bb];have hin2:k<a\/a+p.length<=k:=by
      rcases Nat.lt_or_ge k a with h | h
      ·exact .inl h
      ·exact .inr (by rcases Nat.lt_or_ge k (a+p.length) with h2 | h2;exact absurd ⟨h,h2⟩ Bb;exact h2)
     have IJ:=ab Bb;clear Bb
     go_upto_region 9 with (fail)
     go_cut [14] from 44 to 84 (fun t wx=>t=.bool (decide (bW L a p.length k))/\wx=wc.alloc (.cells #[.int .i64 K,.slice ta T.length tc] 147))
     case first =>
      have Nu:(K=2/\(K == 2)=true/\(K == 3)=false)\/(K=3/\(K == 3)=true/\(K == 2)=false)\/((K == 3)=false/\(K == 2)=false/\K≠2/\K≠3):=by
       by_cases h2:K=2
       ·exact .inl ⟨h2,by simpa using h2,by simp;omega⟩
       ·by_cases h3:K=3
        ·exact .inr (.inl ⟨h3,by simpa using h3,by simp;omega⟩)
        ·exact .inr (.inr ⟨by simpa using h3,by simpa using h2,h2,h3⟩)
      have KP:=ab (show K=2->(decide (bW L a p.length k)=decide (inP a p.length (k+1))) from fun h=>by
       have h:=Oj.out.symm.trans h;refine decide_eq_decide.2 ⟨?_,fun h'=>.inl ⟨h,h'⟩⟩;rintro (⟨_,h'⟩ | ⟨h3,_⟩)
       ·exact h'
       ·rw [h] at h3;cases h3)
      have Kw:=ab (show K=3->(decide (bW L a p.length k)=decide (0<k/\inP a p.length (k - 1))) from fun h=>by
       have h:=Oj.out.symm.trans h;refine decide_eq_decide.2 ⟨?_,fun h'=>.inr ⟨h,h'.1,h'.2⟩⟩;rintro (⟨h3,_⟩ | ⟨_,h',h''⟩)
       ·rw [h] at h3;cases h3
       ·exact ⟨h',h''⟩)
      have HT0:=ab (show K≠2->K≠3->decide (bW L a p.length k)=false from fun h1 h2=>by
       rw [Oj.out] at h1 h2;rw [decide_eq_false_iff_not];rintro (⟨k1,_⟩ | ⟨k1,_⟩)
       ·exact h1 k1
       ·exact h2 k1)
      clear hin2
      rcases Nu with ⟨rfl,q2,q3⟩ | ⟨rfl,q3,q2⟩ | ⟨q3,q2,n2,n3⟩
      ·by_cases h1:a<=k+1
       ·have NG:(a:Int)<=(k:Int)+1:=by omega
        by_cases h2:k+1<a+p.length
        ·have JW:(k:Int)+1<(a:Int)+p.length:=by omega
         have HV:=ab (decide_eq_true (show inP a p.length (k+1) from ⟨h1,h2⟩));go_wp2;go_meet
         case rel=>exact ⟨by rw [KP.out (by first | rfl | trivial),HV.out];try rfl,rfl⟩
        ·have JW:¬ (k:Int)+1<(a:Int)+p.length:=by omega
         have HV:=ab (decide_eq_false (show ¬ inP a p.length (k+1) from fun h=>h2 h.2));go_wp2;go_meet
         case rel=>exact ⟨by rw [KP.out (by first | rfl | trivial),HV.out];try rfl,rfl⟩
       ·have NG:¬ (a:Int)<=(k:Int)+1:=by omega
        have HV:=ab (decide_eq_false (show ¬ inP a p.length (k+1) from fun h=>h1 h.1));go_wp2;go_meet
        case rel=>exact ⟨by rw [KP.out (by first | rfl | trivial),HV.out];try rfl,rfl⟩
      ·by_cases h1:(a:Int)<=(k:Int) - 1
       ·by_cases h2:(k:Int) - 1<(a:Int)+p.length
        ·have HV:=ab (decide_eq_true (show 0<k/\inP a p.length (k - 1) from ⟨by omega,by omega,by omega⟩));go_wp2;go_meet
         case rel=>exact ⟨by rw [Kw.out (by first | rfl | trivial),HV.out];try rfl,rfl⟩
        ·have HV:=ab (decide_eq_false (show ¬ (0<k/\inP a p.length (k - 1)) from fun h=>h2 (by have:=h.2.2;omega)));go_wp2;go_meet
         case rel=>exact ⟨by rw [Kw.out (by first | rfl | trivial),HV.out];try rfl,rfl⟩
       ·have HV:=ab (decide_eq_false (show ¬ (0<k/\inP a p.length (k - 1)) from fun h=>h1 (by have:=h.1;have:=h.2.1;omega)));go_wp2;go_meet
        case rel=>exact ⟨by rw [Kw.out (by first | rfl | trivial),HV.out];try rfl,rfl⟩
      ·go_wp2;go_meet
       case rel=>exact ⟨by rw [HT0.out n2 n3];try rfl,rfl⟩
     case rest =>
      obtain ⟨rfl,hwd⟩:=hcut;subst hwd;clear hin2
      by_cases ht:bW L a p.length k
      ·rw [decide_eq_true ht];have JX:=ab (show (decide (inP a p.length k) || decide (bW L a p.length k))=true by rw [decide_eq_true ht];simp);have I3:=ab (show bP L p a k=(0,[]) by unfold bP;rw [if_neg IJ.out,if_pos ht]);clear ht;have BR:=zI wc (.cells #[.int .i64 0,.slice none 0 0] 147);obtain ⟨KX,Jv⟩:=ou (K:=0) z5.out.size BR HOW.out HZ.out (HeldE.nil _ _ _);rw [World.size_alloc] at Jv;have Gn:=ab KX;have KU:=ab Jv;have FR:=ab ((z5.out.trans (BR.mono z5.out.size)).alloc (z5.out.trans (BR.mono z5.out.size)).size (.cells [.int .i64 0,.slice none 0 0].toArray 147));have Lb:=ab (show bP L p a k=(0,[]) from I3.out);clear KX Jv BR
       by_cases hlast:k+1=L.length
       ·have LG:((k:Int)+1 == (L.length:Int))=true:=by rw [beq_iff_eq];omega
        have IB:=ab (show df L p a wrap (k+1)=(wrap && !true) by unfold df;rw [if_pos hlast,iQ hlast,JX.out]);clear hlast
        go_wp2_with (at_builtin;refine aw (E:=cellE) (Z:=Z) rfl (.tmp 98) (.tmp 100) 102 rfl (.agg #[.int .i64 0,.slice none 0 0]) 32 Tryz.underlying102 cD rfl (by decide) rfl rfl Gn.out KU.out (by have:=HLEN.out;simp only [List.length_cons,List.length_nil];omega) (by have:=HLEN.out;simp only [List.length_cons,List.length_nil];omega) FR.out.size ?_)
        intro v2 w2 Ap hb2 _ _;rw [<-Lb.out,<-Mq.out] at Ap;have H2:=ab Ap;have H3:=ab (FR.out.trans hb2);clear Ap hb2;go_wp2
        go_roundw
        case rel=>exact ⟨k+1,by omega,by go_num,by rw [IB.out];try (cases wrap <;> rfl),H2.out,H3.out⟩
        case measure=>simp [intOf] <;> omega
       ·have LG:((k:Int)+1 == (L.length:Int))=false:=by rw [beq_eq_false_iff_ne];omega
        have IB:=ab (show df L p a wrap (k+1)=wrap by unfold df;rw [if_neg hlast]);clear hlast
        go_wp2_with (at_builtin;refine aw (E:=cellE) (Z:=Z) rfl (.tmp 98) (.tmp 100) 102 rfl (.agg #[.int .i64 0,.slice none 0 0]) 32 Tryz.underlying102 cD rfl (by decide) rfl rfl Gn.out KU.out (by have:=HLEN.out;simp only [List.length_cons,List.length_nil];omega) (by have:=HLEN.out;simp only [List.length_cons,List.length_nil];omega) FR.out.size ?_)
        intro v2 w2 Ap hb2 _ _;rw [<-Lb.out,<-Mq.out] at Ap;have H2:=ab Ap;have H3:=ab (FR.out.trans hb2);clear Ap hb2;go_wp2
        go_roundw
        case rel=>exact ⟨k+1,by omega,by go_num,by rw [IB.out];try (cases wrap <;> rfl),H2.out,H3.out⟩
        case measure=>simp [intOf] <;> omega
      ·rw [decide_eq_false ht];have JX:=ab (show (decide (inP a p.length k) || decide (bW L a p.length k))=false by rw [decide_eq_false ht,decide_eq_false IJ.out];rfl);have I3:=ab (show bP L p a k=(K,T) by unfold bP;rw [if_neg IJ.out,if_neg ht];exact M8.out);clear ht;have BR:=zI wc (.cells #[.int .i64 K,.slice ta T.length tc] 147);obtain ⟨KX,Jv⟩:=ou (K:=K) z5.out.size BR HOW.out HZ.out (NS.out.below (z5.out.trans (BR.mono z5.out.size)));rw [World.size_alloc] at Jv;have Gn:=ab KX;have KU:=ab Jv;have FR:=ab ((z5.out.trans (BR.mono z5.out.size)).alloc (z5.out.trans (BR.mono z5.out.size)).size (.cells [.int .i64 K,.slice ta T.length tc].toArray 147));have Lb:=ab (show bP L p a k=(K,T) from I3.out);clear KX Jv BR
       by_cases hlast:k+1=L.length
       ·have LG:((k:Int)+1 == (L.length:Int))=true:=by rw [beq_iff_eq];omega
        have IB:=ab (show df L p a wrap (k+1)=(wrap && !false) by unfold df;rw [if_pos hlast,iQ hlast,JX.out]);clear hlast
        go_wp2_with (at_builtin;refine aw (E:=cellE) (Z:=Z) rfl (.tmp 98) (.tmp 100) 102 rfl (.agg #[.int .i64 0,.slice none 0 0]) 32 Tryz.underlying102 cD rfl (by decide) rfl rfl Gn.out KU.out (by have:=HLEN.out;simp only [List.length_cons,List.length_nil];omega) (by have:=HLEN.out;simp only [List.length_cons,List.length_nil];omega) FR.out.size ?_)
        intro v2 w2 Ap hb2 _ _;rw [<-Lb.out,<-Mq.out] at Ap;have H2:=ab Ap;have H3:=ab (FR.out.trans hb2);clear Ap hb2;go_wp2
        go_roundw
        case rel=>exact ⟨k+1,by omega,by go_num,by rw [IB.out];try (cases wrap <;> rfl),H2.out,H3.out⟩
        case measure=>simp [intOf] <;> omega
       ·have LG:((k:Int)+1 == (L.length:Int))=false:=by rw [beq_eq_false_iff_ne];omega
        have IB:=ab (show df L p a wrap (k+1)=wrap by unfold df;rw [if_neg hlast]);clear hlast
        go_wp2_with (at_builtin;refine aw (E:=cellE) (Z:=Z) rfl (.tmp 98) (.tmp 100) 102 rfl (.agg #[.int .i64 0,.slice none 0 0]) 32 Tryz.underlying102 cD rfl (by decide) rfl rfl Gn.out KU.out (by have:=HLEN.out;simp only [List.length_cons,List.length_nil];omega) (by have:=HLEN.out;simp only [List.length_cons,List.length_nil];omega) FR.out.size ?_)
        intro v2 w2 Ap hb2 _ _;rw [<-Lb.out,<-Mq.out] at Ap;have H2:=ab Ap;have H3:=ab (FR.out.trans hb2);clear Ap hb2;go_wp2
        go_roundw
        case rel=>exact ⟨k+1,by omega,by go_num,by rw [IB.out];try (cases wrap <;> rfl),H2.out,H3.out⟩
        case measure=>simp [intOf] <;> omega
  ·obtain rfl:k=L.length:=by omega
   have hw:df L p a wrap L.length=(wrap && !bd L p a):=by unfold df;rw [if_pos rfl]
   rw [hw];rw [List.take_of_length_le (by rw [bR];exact Nat.le_refl _)] at hown;have HO:=ab hown;clear hown hw;go_wp2
   go_ret2
   exact ⟨_,rfl,HO.out,z5.out⟩
end Go.Proofs.YtoeggiplcaegoaaGreatDoor
