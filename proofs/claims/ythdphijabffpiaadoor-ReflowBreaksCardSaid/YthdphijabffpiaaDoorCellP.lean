import Derived.Test.YthdphijabffpiaaDoorZ0
import Derived.Test.YthdphijabffpiaaDoorCellO
import Derived.Test.YthdphijabffpiaaDoorCellC
set_option maxRecDepth 100000
set_option linter.unusedVariables false
set_option linter.unusedSimpArgs false
set_option maxHeartbeats 1600000
namespace Go.Proofs.YthdphijabffpiaaDoor
open Go.RowKit Go.ChangeShapes Go.WideShapes
theorem cj(Z:aj)(w:World){B:Nat}(K K':Int)(tv:Value)(t:List Int)(ht:HeldE (be .i32) Z w tv t)(hB:B<=w.heap.size):OwnE cellE Z (w.alloc (.cells #[.int .i64 K,tv,.int .i64 K',.slice none 0 0] 74)) B 74 (.slice (some ⟨w.heap.size,0,none⟩) 2 2) [(K,t),(K',[])]:=by
 refine OwnE.lit w cellE [[.int .i64 K,tv],[.int .i64 K',.slice none 0 0]] _ 2 rfl rfl hB (by decide) (fun i hi=>?_) _ rfl
 match i,hi with
 | 0,_=>exact cell_rep.2 ⟨_,rfl,ht⟩
 | 1,_=>exact cell_rep.2 ⟨_,rfl,HeldE.nil _ _ _⟩
theorem bE(Z:aj)(w:World){B:Nat}(K:Int)(tv:Value)(t:List Int)(ht:HeldE (be .i32) Z w tv t)(hB:B<=w.heap.size):OwnE cellE Z (w.alloc (.cells #[.int .i64 K,tv] 74)) B 74 (.slice (some ⟨w.heap.size,0,none⟩) 1 1) [(K,t)]:=by
 refine OwnE.lit w cellE [[.int .i64 K,tv]] _ 1 rfl rfl hB (by decide) (fun i hi=>?_) _ rfl
 match i,hi with
 | 0,_=>exact cell_rep.2 ⟨_,rfl,ht⟩
theorem eR(Z:aj)(w:World){B:Nat}(hB:B<=w.heap.size):OwnE cellE Z (w.alloc (.cells #[.int .i64 0,.slice none 0 0,.int .i64 0,.slice none 0 0] 74)) B 74 (.slice (some ⟨w.heap.size,0,none⟩) 2 2) [zc,zc] :=
 cj Z w 0 0 _ [] (HeldE.nil _ _ _) hB
theorem dI(wide:Int)(xs:List Int)(t:List Int)(ht:t=(xs.take 16).map aK):(t=[]->2<=wide->ofC wide xs=[zc,zc])/\(t=[]->¬ 2<=wide->ofC wide xs=[zc])/\(t≠[]->2<=wide->ofC wide xs=[(2,t),(3,[])])/\(t≠[]->¬ 2<=wide->ofC wide xs=[(1,t)]):=by
 subst ht;unfold ofC;refine ⟨fun h1 h2=>?_,fun h1 h2=>?_,fun h1 h2=>?_,fun h1 h2=>?_⟩
 ·simp only [h1,List.length_nil,if_true,if_pos h2]
 ·simp only [h1,List.length_nil,if_true,if_neg h2]
 ·simp only [if_neg (fun h=>h1 (List.eq_nil_of_length_eq_zero h)),if_pos h2]
 ·simp only [if_neg (fun h=>h1 (List.eq_nil_of_length_eq_zero h)),if_neg h2]
theorem fr(Z Y:aj)(wide:Int)(v:Value)(xs:List Int)(w:World)(hZ:∀ b,w.heap.size<=b->Z b)(hv:HeldE (be .i32) Y w v xs):Calls Tryd.prog 64 #[.int .i64 wide,v] w (ei cellE Z 74 w (ofC wide xs)):=by
 have hl:=hv.max;obtain ⟨ao,cap,rfl,il,hcm,lr,hcc⟩:=id hv;obtain ⟨m,hm⟩:=ab (min xs.length 16);have hm1:min (xs.length:Int) 16=(m:Int):=by omega
 have hm2:m<=xs.length:=by omega
 have jy:(m:Int)<=(cap:Int):=by omega
 have ht16:(xs.take 16)=xs.take m:=by
  rw [hm]
  by_cases h:xs.length<=16
  ·rw [Nat.min_eq_left h,List.take_length,List.take_of_length_le h]
  ·rw [Nat.min_eq_right (by omega)]
 have hpart:HeldE (be .i32) Y w (.slice ao m cap) (xs.take m):=by
  have:=hv.part 0 m (Nat.zero_le _) hm2 ao cap (fun h=>⟨h,(lr h).2⟩) (fun b off e _=>by simp [e]) (fun a e=>by rw [e];simp) (by omega) hcm
  simpa using this
 obtain ⟨t,ht⟩:=ab ((xs.take 16).map aK);have jo:=aa (dI wide xs t ht);have hR:=em _ _ w hpart.ints (by simp;omega);rw [<-ht16,<-ht] at hR;have HR:=aa hR;have HT:=aa ht;clear hR ht hpart ht16 hm hcc lr il hcm hv
 by_cases h2:2<=wide
 all_goals
  go_enter Tryd.func64,Tryd.ntmps64
  go_wp2_with fail
  refine HR.out.mono ?_;rintro e w1 ⟨v1,rfl,lT,hb1⟩;have hh:=(cK (Z:=Z) lT).held (fun b hb _=>hZ b hb);obtain ⟨a1,c1,rfl⟩:=hh.len;have HH:=aa hh;have gZ:=aa hb1;clear lT hh hb1
  cases t with
  |nil =>
   go_wp2_with fail
   refine (df Z _ _).mono ?_;rintro e w2 ⟨v2,rfl,ig,hb2⟩;have HO:=aa (ig.base (gZ.out.size));have HB:=aa (gZ.out.trans (hb2.mono gZ.out.size));clear ig hb2;go_wp2;go_ret;refine ⟨_,rfl,?_,HB.out⟩
   first
    |(rw [jo.out.1 (by simp) h2];exact HO.out)
    |(rw [jo.out.2.1 (by simp) h2];exact HO.out)
  |cons x t =>
   have ja:0<(x :: t).length:=by simp
   obtain ⟨t0,jF⟩:=ab (x :: t);have hne:t0≠[]:=by rw [jF];simp
   rw [<-jF] at HH jo ja ⊢;have l4:=aa hne;clear jF hne HT HR;have hz:((t0.length:Int) == 0)=false:=by rw [beq_eq_false_iff_ne];omega
   have mQ:=aa (cj Z w1 (B:=w.heap.size) 2 3 _ t0 HH.out gZ.out.size);have ns:=aa (bE Z w1 (B:=w.heap.size) 1 _ t0 HH.out gZ.out.size);go_wp2;go_ret;refine ⟨_,rfl,?_,gZ.out.alloc gZ.out.size _⟩
   first
    |(rw [jo.out.2.2.1 l4.out h2];exact mQ.out)
    |(rw [jo.out.2.2.2 l4.out h2];exact ns.out)
theorem dB(xs:List Int)(k:Nat)(h:k<xs.length):(xs.take (k+1)).map aK=(xs.take k).map aK++[aK (xs.getD k 0)]:=by
 rw [List.take_succ_eq_append_getElem h,List.map_append]
 simp [List.getD,List.getElem?_eq_getElem h]
theorem f8(Z Y:aj)(wide:Int)(v:Value)(xs:List Int)(w:World)(hZ:∀ b,w.heap.size<=b->Z b)(hv:HeldE (be .i32) Y w v xs):Calls Tryd.prog 66 #[.int .i64 wide,v] w (ei cellE Z 74 w (ofC wide xs)):=by
 have hl:=hv.max;obtain ⟨ao,cap,rfl,hc⟩:=hv.ints.view;have HC:=aa hc;have jo:=aa (fun t (ht:t=(xs.take 16).map aK)=>dI wide xs t ht);clear hc hv
 go_enter Tryd.func66,Tryd.ntmps66
 go_wp2
 go_loopw [5,6] (fun t i wr=>∃ k:Nat,k<=xs.length/\k<=16/\i=.int .i64 k/\OwnE (be .i32) (fun _=>True) wr w.heap.size 21 t ((xs.take k).map aK)/\Below w.heap.size w wr) (fun _ i _=>16 - (intOf i).toNat)
 case atStart=>exact ⟨0,Nat.zero_le _,Nat.zero_le _,rfl,OwnE.nil _ _ _ _ _,Below.refl _ _⟩
 case round =>
  obtain ⟨k,hk,hk16,rfl,hown,g3⟩:=hrel;have gW:=aa g3;clear g3
  by_cases hlt:k<xs.length/\k<16
  ·obtain ⟨hlt,hlt16⟩:=hlt;obtain ⟨b,off,rfl,hb,iV⟩:=HC.out k hlt;have iV:=(gW.out.cell (p:=⟨b,off+k,none⟩) hb).trans iV;have hs:=dB xs k hlt;have hlen:((xs.take k).map aK).length<=16:=by simp;omega
   obtain ⟨x,hx⟩:=ab (xs.getD k 0);rw [<-hx] at iV hs;obtain ⟨P0,hP⟩:=ab ((xs.take k).map aK);rw [<-hP] at hown hs hlen;have HS:=aa hs;clear hs hP hx;have jx:=hown.lt;have HX:=aa (fun y:Int=>show HeldE (be .i32) (fun b=>True/\_≠some b) (wr.alloc (.cells [Value.int .i32 y].toArray 21)) (.slice (some ⟨wr.heap.size,0,none⟩) 1 1) [y] from ax (Y:=fun _=>False) [.int .i32 y] y rfl (fun _ _ h=>h.elim) ⟨trivial,fun e=>by have:=(jx _ e).2;omega⟩);have HO:=aa (fun y:Int=>hown.below (af wr (.cells [Value.int .i32 y].toArray 21)));have gZ:=aa (fun y:Int=>gW.out.alloc gW.out.size (.cells [Value.int .i32 y].toArray 21));clear hown jx
   cases hvx:ar x with
   |true =>
    have HV:=aa hvx;clear hvx
    go_wp2_with fail
    refine (bg _ _).mono ?_;rintro e w' ⟨rfl,rfl⟩;rw [HV.out]
    go_wp2_with (at_builtin;refine ai (E:=be .i32) (Z:=fun _=>True) rfl (.tmp 23) (.tmp 28) 57 rfl (.int .i32 0) 4 Tryd.underlying57 dF rfl (Nat.lt_succ_self 0) rfl rfl (HO.out x) (HX.out x) (by simp;omega) (by simp;omega) (gZ.out x).size ?_)
    intro v2 w2 ig hb2 _ _;have hb3:=(gZ.out x).trans hb2;have e:aK x=x:=by unfold aK;rw [if_pos HV.out]
    rw [e] at HS;rw [<-HS.out] at ig;have H2:=aa ig;have H3:=aa hb3;clear ig hb2 hb3 e;go_wp2
    go_roundw
    case rel=>exact ⟨k+1,by omega,by omega,by go_num,H2.out,H3.out⟩
    case measure=>simp [intOf] <;> omega
   |false =>
    have HV:=aa hvx;clear hvx
    go_wp2_with fail
    refine (bg _ _).mono ?_;rintro e w' ⟨rfl,rfl⟩;rw [HV.out]
    go_wp2_with (at_builtin;refine ai (E:=be .i32) (Z:=fun _=>True) rfl (.tmp 30) (.tmp 31) 57 rfl (.int .i32 0) 4 Tryd.underlying57 dF rfl (Nat.lt_succ_self 0) rfl rfl (HO.out 65533) (HX.out 65533) (by simp;omega) (by simp;omega) (gZ.out 65533).size ?_)
    intro v2 w2 ig hb2 _ _;have hb3:=(gZ.out 65533).trans hb2;have e:aK x=65533:=by unfold aK;rw [if_neg (by rw [HV.out];decide)]
    rw [e] at HS;rw [<-HS.out] at ig;have H2:=aa ig;have H3:=aa hb3;clear ig hb2 hb3 e;go_wp2
    go_roundw
    case rel=>exact ⟨k+1,by omega,by omega,by go_num,H2.out,H3.out⟩
    case measure=>simp [intOf] <;> omega
  ·have ht:(xs.take k).map aK=(xs.take 16).map aK:=by
    rcases Nat.lt_or_ge k 16 with h | h
    ·rw [List.take_of_length_le (show xs.length<=k by omega),List.take_of_length_le (show xs.length<=16 by omega)]
    ·rw [show k=16 by omega]
   obtain ⟨t,ky⟩:=ab ((xs.take k).map aK);rw [<-ky] at ht hown;have jo:=aa (jo.out t ht);have hh:=(cK (Z:=Z) hown.ints).held (fun b hb _=>hZ b hb);obtain ⟨a1,c1,rfl⟩:=hh.len;have HH:=aa hh;have hcase:(xs.length<=k)\/(k<xs.length/\k=16):=by omega
   clear hlt ht hown hh ky;have HZ2:=aa (eR Z wr gW.out.size);have HZ1:=aa (bE Z wr 0 _ [] (HeldE.nil _ _ _) gW.out.size)
   by_cases h2:2<=wide <;> cases t with
   |nil =>
    rcases hcase with hc | ⟨hc,rfl⟩
    all_goals
     go_wp2;go_ret;refine ⟨_,rfl,?_,gW.out.alloc gW.out.size _⟩
     first
      |(rw [jo.out.1 (by simp) h2];exact HZ2.out)
      |(rw [jo.out.2.1 (by simp) h2];exact HZ1.out)
   |cons x t =>
    obtain ⟨t0,jF⟩:=ab (x :: t);have hne:t0≠[]:=by rw [jF];simp
    have ja:0<t0.length:=by rw [jF];simp
    rw [<-jF] at HH jo ⊢;have l4:=aa hne;clear jF hne;have hz:((t0.length:Int) == 0)=false:=by rw [beq_eq_false_iff_ne];omega
    have mQ:=aa (cj Z wr (B:=w.heap.size) 2 3 _ t0 HH.out gW.out.size);have ns:=aa (bE Z wr (B:=w.heap.size) 1 _ t0 HH.out gW.out.size)
    rcases hcase with hc | ⟨hc,rfl⟩
    all_goals
     go_wp2;go_ret;refine ⟨_,rfl,?_,gW.out.alloc gW.out.size _⟩
     first
      |(rw [jo.out.2.2.1 l4.out h2];exact mQ.out)
      |(rw [jo.out.2.2.2 l4.out h2];exact ns.out)
end Go.Proofs.YthdphijabffpiaaDoor
