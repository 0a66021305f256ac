import Derived.Test.YthdphijabffpiaaDoorZ0
import Derived.Test.YthdphijabffpiaaDoorCellO
import Derived.Test.YthdphijabffpiaaDoorCellC
set_option maxRecDepth 100000
set_option linter.unusedVariables false
set_option linter.unusedSimpArgs false
set_option maxHeartbeats 1600000
namespace Go.Proofs.YthdphijabffpiaaDoor
open Go.RowKit Go.ChangeShapes Go.WideShapes
theorem bP(Z:ak)(w:World){B:Nat}(K K':Int)(tv:Value)(t:List Int)(ht:HeldE (aR .i32) Z w tv t)(hB:B<=w.heap.size):OwnE cellE Z (w.alloc (.cells #[.int .i64 K,tv,.int .i64 K',.slice none 0 0] 74)) B 74 (.slice (some ⟨w.heap.size,0,none⟩) 2 2) [(K,t),(K',[])]:=by
 refine OwnE.lit w cellE [[.int .i64 K,tv],[.int .i64 K',.slice none 0 0]] _ 2 rfl rfl hB (by decide) (fun i hi=>?_) _ rfl
 match i,hi with
 | 0,_=>exact cell_rep.2 ⟨_,rfl,ht⟩
 | 1,_=>exact cell_rep.2 ⟨_,rfl,HeldE.nil _ _ _⟩
theorem bm(Z:ak)(w:World){B:Nat}(K:Int)(tv:Value)(t:List Int)(ht:HeldE (aR .i32) Z w tv t)(hB:B<=w.heap.size):OwnE cellE Z (w.alloc (.cells #[.int .i64 K,tv] 74)) B 74 (.slice (some ⟨w.heap.size,0,none⟩) 1 1) [(K,t)]:=by
 refine OwnE.lit w cellE [[.int .i64 K,tv]] _ 1 rfl rfl hB (by decide) (fun i hi=>?_) _ rfl
 match i,hi with
 | 0,_=>exact cell_rep.2 ⟨_,rfl,ht⟩
theorem eo(Z:ak)(w:World){B:Nat}(hB:B<=w.heap.size):OwnE cellE Z (w.alloc (.cells #[.int .i64 0,.slice none 0 0,.int .i64 0,.slice none 0 0] 74)) B 74 (.slice (some ⟨w.heap.size,0,none⟩) 2 2) [zc,zc] :=
 bP Z w 0 0 _ [] (HeldE.nil _ _ _) hB
theorem dp(wide:Int)(xs:List Int)(t:List Int)(ht:t=(xs.take 16).map aH):(t=[]->2<=wide->ofC wide xs=[zc,zc])/\(t=[]->¬ 2<=wide->ofC wide xs=[zc])/\(t≠[]->2<=wide->ofC wide xs=[(2,t),(3,[])])/\(t≠[]->¬ 2<=wide->ofC wide xs=[(1,t)]):=by
 subst ht;unfold ofC;refine ⟨fun h1 h2=>?_,fun h1 h2=>?_,fun h1 h2=>?_,fun h1 h2=>?_⟩
 ·simp only [h1,List.length_nil,if_true,if_pos h2]
 ·simp only [h1,List.length_nil,if_true,if_neg h2]
 ·simp only [if_neg (fun h=>h1 (List.eq_nil_of_length_eq_zero h)),if_pos h2]
 ·simp only [if_neg (fun h=>h1 (List.eq_nil_of_length_eq_zero h)),if_neg h2]
theorem eK(Z Y:ak)(wide:Int)(v:Value)(xs:List Int)(w:World)(hZ:∀ b,w.heap.size<=b->Z b)(hv:HeldE (aR .i32) Y w v xs):Calls Tryd.prog 64 #[.int .i64 wide,v] w (eI cellE Z 74 w (ofC wide xs)):=by
 have hl:=hv.max;obtain ⟨ao,cap,rfl,gS,hcm,ka,hcc⟩:=id hv;obtain ⟨m,hm⟩:=ab (min xs.length 16);have hm1:min (xs.length:Int) 16=(m:Int):=by omega
 have hm2:m<=xs.length:=by omega
 have iu:(m:Int)<=(cap:Int):=by omega
 have ht16:(xs.take 16)=xs.take m:=by
  rw [hm]
  by_cases h:xs.length<=16
  ·rw [Nat.min_eq_left h,List.take_length,List.take_of_length_le h]
  ·rw [Nat.min_eq_right (by omega)]
 have hpart:HeldE (aR .i32) Y w (.slice ao m cap) (xs.take m):=by
  have:=hv.part 0 m (Nat.zero_le _) hm2 ao cap (fun h=>⟨h,(ka h).2⟩) (fun b off e _=>by simp [e]) (fun a e=>by rw [e];simp) (by omega) hcm
  simpa using this
 obtain ⟨t,ht⟩:=ab ((xs.take 16).map aH);have ip:=aa (dp wide xs t ht);have hR:=dT _ _ w hpart.ints (by simp;omega);rw [<-ht16,<-ht] at hR;have HR:=aa hR;have HT:=aa ht;clear hR ht hpart ht16 hm hcc ka gS hcm hv
 by_cases h2:2<=wide
 all_goals
  go_enter Tryd.func64,Tryd.ntmps64
  go_wp2_with fail
  refine HR.out.mono ?_;rintro e w1 ⟨v1,rfl,kn,hb1⟩;have hh:=(cl (Z:=Z) kn).held (fun b hb _=>hZ b hb);obtain ⟨a1,c1,rfl⟩:=hh.len;have HH:=aa hh;have gG:=aa hb1;clear kn hh hb1
  cases t with
  |nil =>
   go_wp2_with fail
   refine (cQ Z _ _).mono ?_;rintro e w2 ⟨v2,rfl,gV,hb2⟩;have HO:=aa (gV.base (gG.out.size));have HB:=aa (gG.out.trans (hb2.mono gG.out.size));clear gV hb2;go_wp2;go_ret;refine ⟨_,rfl,?_,HB.out⟩
   first
    |(rw [ip.out.1 (by simp) h2];exact HO.out)
    |(rw [ip.out.2.1 (by simp) h2];exact HO.out)
  |cons x t =>
   have j1:0<(x :: t).length:=by simp
   obtain ⟨t0,iR⟩:=ab (x :: t);have hne:t0≠[]:=by rw [iR];simp
   rw [<-iR] at HH ip j1 ⊢;have kJ:=aa hne;clear iR hne HT HR;have hz:((t0.length:Int) == 0)=false:=by rw [beq_eq_false_iff_ne];omega
   have lR:=aa (bP Z w1 (B:=w.heap.size) 2 3 _ t0 HH.out gG.out.size);have lD:=aa (bm Z w1 (B:=w.heap.size) 1 _ t0 HH.out gG.out.size);go_wp2;go_ret;refine ⟨_,rfl,?_,gG.out.alloc gG.out.size _⟩
   first
    |(rw [ip.out.2.2.1 kJ.out h2];exact lR.out)
    |(rw [ip.out.2.2.2 kJ.out h2];exact lD.out)
theorem dh(xs:List Int)(k:Nat)(h:k<xs.length):(xs.take (k+1)).map aH=(xs.take k).map aH++[aH (xs.getD k 0)]:=by
 rw [List.take_succ_eq_append_getElem h,List.map_append]
 simp [List.getD,List.getElem?_eq_getElem h]
theorem fI(Z Y:ak)(wide:Int)(v:Value)(xs:List Int)(w:World)(hZ:∀ b,w.heap.size<=b->Z b)(hv:HeldE (aR .i32) Y w v xs):Calls Tryd.prog 66 #[.int .i64 wide,v] w (eI cellE Z 74 w (ofC wide xs)):=by
 have hl:=hv.max;obtain ⟨ao,cap,rfl,hc⟩:=hv.ints.view;have HC:=aa hc;have ip:=aa (fun t (ht:t=(xs.take 16).map aH)=>dp wide xs t ht);clear hc hv
 go_enter Tryd.func66,Tryd.ntmps66
 go_wp2
 go_loopw [5,6] (fun t i wr=>∃ k:Nat,k<=xs.length/\k<=16/\i=.int .i64 k/\OwnE (aR .i32) (fun _=>True) wr w.heap.size 21 t ((xs.take k).map aH)/\Below w.heap.size w wr) (fun _ i _=>16 - (intOf i).toNat)
 case atStart=>exact ⟨0,Nat.zero_le _,Nat.zero_le _,rfl,OwnE.nil _ _ _ _ _,Below.refl _ _⟩
 case round =>
  obtain ⟨k,hk,hk16,rfl,hown,gF⟩:=hrel;have gD:=aa gF;clear gF
  by_cases hlt:k<xs.length/\k<16
  ·obtain ⟨hlt,hlt16⟩:=hlt;obtain ⟨b,off,rfl,hb,gZ⟩:=HC.out k hlt;have gZ:=(gD.out.cell (p:=⟨b,off+k,none⟩) hb).trans gZ;have hs:=dh xs k hlt;have hlen:((xs.take k).map aH).length<=16:=by simp;omega
   obtain ⟨x,hx⟩:=ab (xs.getD k 0);rw [<-hx] at gZ hs;obtain ⟨P0,hP⟩:=ab ((xs.take k).map aH);rw [<-hP] at hown hs hlen;have HS:=aa hs;clear hs hP hx;have kK:=hown.lt;have HX:=aa (fun y:Int=>show HeldE (aR .i32) (fun b=>True/\_≠some b) (wr.alloc (.cells [Value.int .i32 y].toArray 21)) (.slice (some ⟨wr.heap.size,0,none⟩) 1 1) [y] from aB (Y:=fun _=>False) [.int .i32 y] y rfl (fun _ _ h=>h.elim) ⟨trivial,fun e=>by have:=(kK _ e).2;omega⟩);have HO:=aa (fun y:Int=>hown.below (af wr (.cells [Value.int .i32 y].toArray 21)));have gG:=aa (fun y:Int=>gD.out.alloc gD.out.size (.cells [Value.int .i32 y].toArray 21));clear hown kK
   cases hvx:aq x with
   |true =>
    have HV:=aa hvx;clear hvx
    go_wp2_with fail
    refine (aT _ _).mono ?_;rintro e w' ⟨rfl,rfl⟩;rw [HV.out]
    go_wp2_with (at_builtin;refine ai (E:=aR .i32) (Z:=fun _=>True) rfl (.tmp 23) (.tmp 28) 57 rfl (.int .i32 0) 4 Tryd.underlying57 dl rfl (Nat.lt_succ_self 0) rfl rfl (HO.out x) (HX.out x) (by simp;omega) (by simp;omega) (gG.out x).size ?_)
    intro v2 w2 gV hb2 _ _;have hb3:=(gG.out x).trans hb2;have e:aH x=x:=by unfold aH;rw [if_pos HV.out]
    rw [e] at HS;rw [<-HS.out] at gV;have H2:=aa gV;have H3:=aa hb3;clear gV hb2 hb3 e;go_wp2
    go_roundw
    case rel=>exact ⟨k+1,by omega,by omega,by go_num,H2.out,H3.out⟩
    case measure=>simp [intOf] <;> omega
   |false =>
    have HV:=aa hvx;clear hvx
    go_wp2_with fail
    refine (aT _ _).mono ?_;rintro e w' ⟨rfl,rfl⟩;rw [HV.out]
    go_wp2_with (at_builtin;refine ai (E:=aR .i32) (Z:=fun _=>True) rfl (.tmp 30) (.tmp 31) 57 rfl (.int .i32 0) 4 Tryd.underlying57 dl rfl (Nat.lt_succ_self 0) rfl rfl (HO.out 65533) (HX.out 65533) (by simp;omega) (by simp;omega) (gG.out 65533).size ?_)
    intro v2 w2 gV hb2 _ _;have hb3:=(gG.out 65533).trans hb2;have e:aH x=65533:=by unfold aH;rw [if_neg (by rw [HV.out];decide)]
    rw [e] at HS;rw [<-HS.out] at gV;have H2:=aa gV;have H3:=aa hb3;clear gV hb2 hb3 e;go_wp2
    go_roundw
    case rel=>exact ⟨k+1,by omega,by omega,by go_num,H2.out,H3.out⟩
    case measure=>simp [intOf] <;> omega
  ·have ht:(xs.take k).map aH=(xs.take 16).map aH:=by
    rcases Nat.lt_or_ge k 16 with h | h
    ·rw [List.take_of_length_le (show xs.length<=k by omega),List.take_of_length_le (show xs.length<=16 by omega)]
    ·rw [show k=16 by omega]
   obtain ⟨t,ku⟩:=ab ((xs.take k).map aH);rw [<-ku] at ht hown;have ip:=aa (ip.out t ht);have hh:=(cl (Z:=Z) hown.ints).held (fun b hb _=>hZ b hb);obtain ⟨a1,c1,rfl⟩:=hh.len;have HH:=aa hh;have hcase:(xs.length<=k)\/(k<xs.length/\k=16):=by omega
   clear hlt ht hown hh ku;have HZ2:=aa (eo Z wr gD.out.size);have HZ1:=aa (bm Z wr 0 _ [] (HeldE.nil _ _ _) gD.out.size)
   by_cases h2:2<=wide <;> cases t with
   |nil =>
    rcases hcase with hc | ⟨hc,rfl⟩
    all_goals
     go_wp2;go_ret;refine ⟨_,rfl,?_,gD.out.alloc gD.out.size _⟩
     first
      |(rw [ip.out.1 (by simp) h2];exact HZ2.out)
      |(rw [ip.out.2.1 (by simp) h2];exact HZ1.out)
   |cons x t =>
    obtain ⟨t0,iR⟩:=ab (x :: t);have hne:t0≠[]:=by rw [iR];simp
    have j1:0<t0.length:=by rw [iR];simp
    rw [<-iR] at HH ip ⊢;have kJ:=aa hne;clear iR hne;have hz:((t0.length:Int) == 0)=false:=by rw [beq_eq_false_iff_ne];omega
    have lR:=aa (bP Z wr (B:=w.heap.size) 2 3 _ t0 HH.out gD.out.size);have lD:=aa (bm Z wr (B:=w.heap.size) 1 _ t0 HH.out gD.out.size)
    rcases hcase with hc | ⟨hc,rfl⟩
    all_goals
     go_wp2;go_ret;refine ⟨_,rfl,?_,gD.out.alloc gD.out.size _⟩
     first
      |(rw [ip.out.2.2.1 kJ.out h2];exact lR.out)
      |(rw [ip.out.2.2.2 kJ.out h2];exact lD.out)
end Go.Proofs.YthdphijabffpiaaDoor
