import Derived.Test.YtoeggiplcaegoaaGreatDoorZ0
import Derived.Test.YtoeggiplcaegoaaGreatDoorMg5
import Derived.Test.YtoeggiplcaegoaaGreatDoorMg1
set_option maxRecDepth 100000
set_option linter.unusedVariables false
set_option linter.unusedSimpArgs false
set_option maxHeartbeats 1600000
namespace Go.Proofs.YtoeggiplcaegoaaGreatDoor
open Go.RowKit Go.ChangeShapes Go.WideShapes
theorem iM(Z:an)(w:World){B:Nat}(K K':Int)(tv:Value)(t:List Int)(ht:HeldE (aE .i32) Z w tv t)(hB:B<=w.heap.size):OwnE cellE Z (w.alloc (.cells #[.int .i64 K,tv,.int .i64 K',.slice none 0 0] 147)) B 147 (.slice (some ⟨w.heap.size,0,none⟩) 2 2) [(K,t),(K',[])]:=by
 refine OwnE.lit w cellE [[.int .i64 K,tv],[.int .i64 K',.slice none 0 0]] _ 2 rfl rfl hB (by decide) (fun i hi=>?_) _ rfl
 match i,hi with
 | 0,_=>exact cell_rep.2 ⟨_,rfl,ht⟩
 | 1,_=>exact cell_rep.2 ⟨_,rfl,HeldE.nil _ _ _⟩
theorem iN(Z:an)(w:World){B:Nat}(K:Int)(tv:Value)(t:List Int)(ht:HeldE (aE .i32) Z w tv t)(hB:B<=w.heap.size):OwnE cellE Z (w.alloc (.cells #[.int .i64 K,tv] 147)) B 147 (.slice (some ⟨w.heap.size,0,none⟩) 1 1) [(K,t)]:=by
 refine OwnE.lit w cellE [[.int .i64 K,tv]] _ 1 rfl rfl hB (by decide) (fun i hi=>?_) _ rfl
 match i,hi with
 | 0,_=>exact cell_rep.2 ⟨_,rfl,ht⟩
theorem rb(Z:an)(w:World){B:Nat}(hB:B<=w.heap.size):OwnE cellE Z (w.alloc (.cells #[.int .i64 0,.slice none 0 0,.int .i64 0,.slice none 0 0] 147)) B 147 (.slice (some ⟨w.heap.size,0,none⟩) 2 2) [zc,zc] :=
 iM Z w 0 0 _ [] (HeldE.nil _ _ _) hB
theorem mU(wide:Int)(xs:List Int)(t:List Int)(ht:t=(xs.take 16).map aS):(t=[]->2<=wide->ofC wide xs=[zc,zc])/\(t=[]->¬ 2<=wide->ofC wide xs=[zc])/\(t≠[]->2<=wide->ofC wide xs=[(2,t),(3,[])])/\(t≠[]->¬ 2<=wide->ofC wide xs=[(1,t)]):=by
 subst ht;unfold ofC;refine ⟨fun h1 h2=>?_,fun h1 h2=>?_,fun h1 h2=>?_,fun h1 h2=>?_⟩
 ·simp only [h1,List.length_nil,if_true,if_pos h2]
 ·simp only [h1,List.length_nil,if_true,if_neg h2]
 ·simp only [if_neg (fun h=>h1 (List.eq_nil_of_length_eq_zero h)),if_pos h2]
 ·simp only [if_neg (fun h=>h1 (List.eq_nil_of_length_eq_zero h)),if_neg h2]
theorem yh(Z Y:an)(wide:Int)(v:Value)(xs:List Int)(w:World)(hZ:∀ b,w.heap.size<=b->Z b)(hv:HeldE (aE .i32) Y w v xs):Calls Tryz.prog 190 #[.int .i64 wide,v] w (fk cellE Z 147 w (ofC wide xs)):=by
 have hl:=hv.max;obtain ⟨ao,cap,rfl,Bg,hcm,Es,hcc⟩:=id hv;obtain ⟨m,hm⟩:=ae (min xs.length 16);have PF:min (xs.length:Int) 16=(m:Int):=by omega
 have F4:m<=xs.length:=by omega
 have hm3:(m:Int)<=(cap:Int):=by omega
 have ht16:(xs.take 16)=xs.take m:=by
  rw [hm]
  by_cases h:xs.length<=16
  ·rw [Nat.min_eq_left h,List.take_length,List.take_of_length_le h]
  ·rw [Nat.min_eq_right (by omega)]
 have hpart:HeldE (aE .i32) Y w (.slice ao m cap) (xs.take m):=by
  have:=hv.part 0 m (Nat.zero_le _) F4 ao cap (fun h=>⟨h,(Es h).2⟩) (fun b off e _=>by simp [e]) (fun a e=>by rw [e];simp) (by omega) hcm
  simpa using this
 obtain ⟨t,ht⟩:=ae ((xs.take 16).map aS);have IQ:=ab (mU wide xs t ht);have hR:=gP _ _ w hpart.ints (by simp;omega);rw [<-ht16,<-ht] at hR;have HR:=ab hR;have HT:=ab ht;clear hR ht hpart ht16 hm hcc Es Bg hcm hv
 by_cases h2:2<=wide
 all_goals
  go_enter Tryz.func190,Tryz.ntmps190
  go_wp2_with fail
  refine HR.out.mono ?_;rintro e w1 ⟨v1,rfl,AA,hb1⟩;have hh:=(dH (Z:=Z) AA).held (fun b hb _=>hZ b hb);obtain ⟨a1,c1,rfl⟩:=hh.len;have HH:=ab hh;have Ah:=ab hb1;clear AA hh hb1
  cases t with
  |nil =>
   go_wp2_with fail
   refine (iO Z _ _).mono ?_;rintro e w2 ⟨v2,rfl,Ap,hb2⟩;have HO:=ab (Ap.base (Ah.out.size));have HB:=ab (Ah.out.trans (hb2.mono Ah.out.size));clear Ap hb2;go_wp2;go_ret;refine ⟨_,rfl,?_,HB.out⟩
   first
    |(rw [IQ.out.1 (by simp) h2];exact HO.out)
    |(rw [IQ.out.2.1 (by simp) h2];exact HO.out)
  |cons x t =>
   have Ci:0<(x :: t).length:=by simp
   obtain ⟨t0,Kf⟩:=ae (x :: t);have hne:t0≠[]:=by rw [Kf];simp
   rw [<-Kf] at HH IQ Ci ⊢;have KN:=ab hne;clear Kf hne HT HR;have hz:((t0.length:Int) == 0)=false:=by rw [beq_eq_false_iff_ne];omega
   have Pc:=ab (iM Z w1 (B:=w.heap.size) 2 3 _ t0 HH.out Ah.out.size);have DT:=ab (iN Z w1 (B:=w.heap.size) 1 _ t0 HH.out Ah.out.size);go_wp2;go_ret;refine ⟨_,rfl,?_,Ah.out.alloc Ah.out.size _⟩
   first
    |(rw [IQ.out.2.2.1 KN.out h2];exact Pc.out)
    |(rw [IQ.out.2.2.2 KN.out h2];exact DT.out)
theorem iA(xs:List Int)(k:Nat)(h:k<xs.length):(xs.take (k+1)).map aS=(xs.take k).map aS++[aS (xs.getD k 0)]:=by
 rw [List.take_succ_eq_append_getElem h,List.map_append]
 simp [List.getD,List.getElem?_eq_getElem h]
theorem vS(Z Y:an)(wide:Int)(v:Value)(xs:List Int)(w:World)(hZ:∀ b,w.heap.size<=b->Z b)(hv:HeldE (aE .i32) Y w v xs):Calls Tryz.prog 144 #[.int .i64 wide,v] w (fk cellE Z 147 w (ofC wide xs)):=by
 have hl:=hv.max;obtain ⟨ao,cap,rfl,hc⟩:=hv.ints.view;have HC:=ab hc;have IQ:=ab (fun t (ht:t=(xs.take 16).map aS)=>mU wide xs t ht);clear hc hv
 go_enter Tryz.func144,Tryz.ntmps144
 go_wp2
 go_loopw [5,6] (fun t i wr=>∃ k:Nat,k<=xs.length/\k<=16/\i=.int .i64 k/\OwnE (aE .i32) (fun _=>True) wr w.heap.size 21 t ((xs.take k).map aS)/\Below w.heap.size w wr) (fun _ i _=>16 - (intOf i).toNat)
 case atStart=>exact ⟨0,Nat.zero_le _,Nat.zero_le _,rfl,OwnE.nil _ _ _ _ _,Below.refl _ _⟩
 case round =>
  obtain ⟨k,hk,hk16,rfl,hown,zN⟩:=hrel;have z5:=ab zN;clear zN
  by_cases hlt:k<xs.length/\k<16
  ·obtain ⟨hlt,hlt16⟩:=hlt;obtain ⟨b,off,rfl,hb,AX⟩:=HC.out k hlt;have AX:=(z5.out.cell (p:=⟨b,off+k,none⟩) hb).trans AX;have hs:=iA xs k hlt;have hlen:((xs.take k).map aS).length<=16:=by simp;omega
   obtain ⟨x,hx⟩:=ae (xs.getD k 0);rw [<-hx] at AX hs;obtain ⟨P0,hP⟩:=ae ((xs.take k).map aS);rw [<-hP] at hown hs hlen;have HS:=ab hs;clear hs hP hx;have AF:=hown.lt;have HX:=ab (fun y:Int=>show HeldE (aE .i32) (fun b=>True/\_≠some b) (wr.alloc (.cells [Value.int .i32 y].toArray 21)) (.slice (some ⟨wr.heap.size,0,none⟩) 1 1) [y] from aO (Y:=fun _=>False) [.int .i32 y] y rfl (fun _ _ h=>h.elim) ⟨trivial,fun e=>by have:=(AF _ e).2;omega⟩);have HO:=ab (fun y:Int=>hown.below (zI wr (.cells [Value.int .i32 y].toArray 21)));have Ah:=ab (fun y:Int=>z5.out.alloc z5.out.size (.cells [Value.int .i32 y].toArray 21));clear hown AF
   cases hvx:bg x with
   |true =>
    have HV:=ab hvx;clear hvx
    go_wp2_with fail
    refine (eR _ _).mono ?_;rintro e w' ⟨rfl,rfl⟩;rw [HV.out]
    go_wp2_with (at_builtin;refine aw (E:=aE .i32) (Z:=fun _=>True) rfl (.tmp 23) (.tmp 28) 27 rfl (.int .i32 0) 4 Tryz.underlying27 mW rfl (Nat.lt_succ_self 0) rfl rfl (HO.out x) (HX.out x) (by simp;omega) (by simp;omega) (Ah.out x).size ?_)
    intro v2 w2 Ap hb2 _ _;have hb3:=(Ah.out x).trans hb2;have e:aS x=x:=by unfold aS;rw [if_pos HV.out]
    rw [e] at HS;rw [<-HS.out] at Ap;have H2:=ab Ap;have H3:=ab hb3;clear Ap hb2 hb3 e;go_wp2
    go_roundw
    case rel=>exact ⟨k+1,by omega,by omega,by go_num,H2.out,H3.out⟩
    case measure=>simp [intOf] <;> omega
   |false =>
    have HV:=ab hvx;clear hvx
    go_wp2_with fail
    refine (eR _ _).mono ?_;rintro e w' ⟨rfl,rfl⟩;rw [HV.out]
    go_wp2_with (at_builtin;refine aw (E:=aE .i32) (Z:=fun _=>True) rfl (.tmp 30) (.tmp 31) 27 rfl (.int .i32 0) 4 Tryz.underlying27 mW rfl (Nat.lt_succ_self 0) rfl rfl (HO.out 65533) (HX.out 65533) (by simp;omega) (by simp;omega) (Ah.out 65533).size ?_)
    intro v2 w2 Ap hb2 _ _;have hb3:=(Ah.out 65533).trans hb2;have e:aS x=65533:=by unfold aS;rw [if_neg (by rw [HV.out];decide)]
    rw [e] at HS;rw [<-HS.out] at Ap;have H2:=ab Ap;have H3:=ab hb3;clear Ap hb2 hb3 e;go_wp2
    go_roundw
    case rel=>exact ⟨k+1,by omega,by omega,by go_num,H2.out,H3.out⟩
    case measure=>simp [intOf] <;> omega
  ·have ht:(xs.take k).map aS=(xs.take 16).map aS:=by
    rcases Nat.lt_or_ge k 16 with h | h
    ·rw [List.take_of_length_le (show xs.length<=k by omega),List.take_of_length_le (show xs.length<=16 by omega)]
    ·rw [show k=16 by omega]
   obtain ⟨t,M2⟩:=ae ((xs.take k).map aS);rw [<-M2] at ht hown;have IQ:=ab (IQ.out t ht);have hh:=(dH (Z:=Z) hown.ints).held (fun b hb _=>hZ b hb);obtain ⟨a1,c1,rfl⟩:=hh.len;have HH:=ab hh;have hcase:(xs.length<=k)\/(k<xs.length/\k=16):=by omega
   clear hlt ht hown hh M2;have HZ2:=ab (rb Z wr z5.out.size);have HZ1:=ab (iN Z wr 0 _ [] (HeldE.nil _ _ _) z5.out.size)
   by_cases h2:2<=wide <;> cases t with
   |nil =>
    rcases hcase with hc | ⟨hc,rfl⟩
    all_goals
     go_wp2;go_ret;refine ⟨_,rfl,?_,z5.out.alloc z5.out.size _⟩
     first
      |(rw [IQ.out.1 (by simp) h2];exact HZ2.out)
      |(rw [IQ.out.2.1 (by simp) h2];exact HZ1.out)
   |cons x t =>
    obtain ⟨t0,Kf⟩:=ae (x :: t);have hne:t0≠[]:=by rw [Kf];simp
    have Ci:0<t0.length:=by rw [Kf];simp
    rw [<-Kf] at HH IQ ⊢;have KN:=ab hne;clear Kf hne;have hz:((t0.length:Int) == 0)=false:=by rw [beq_eq_false_iff_ne];omega
    have Pc:=ab (iM Z wr (B:=w.heap.size) 2 3 _ t0 HH.out z5.out.size);have DT:=ab (iN Z wr (B:=w.heap.size) 1 _ t0 HH.out z5.out.size)
    rcases hcase with hc | ⟨hc,rfl⟩
    all_goals
     go_wp2;go_ret;refine ⟨_,rfl,?_,z5.out.alloc z5.out.size _⟩
     first
      |(rw [IQ.out.2.2.1 KN.out h2];exact Pc.out)
      |(rw [IQ.out.2.2.2 KN.out h2];exact DT.out)
end Go.Proofs.YtoeggiplcaegoaaGreatDoor
