import Derived.Test.YtoeggiplcaegoaaGreatDoorZ0
import Derived.Test.YtoeggiplcaegoaaGreatDoorMg5
import Derived.Test.YtoeggiplcaegoaaGreatDoorMg1
set_option maxRecDepth 100000
set_option linter.unusedVariables false
set_option linter.unusedSimpArgs false
set_option maxHeartbeats 1600000
namespace Go.Proofs.YtoeggiplcaegoaaGreatDoor
open Go.RowKit Go.ChangeShapes Go.WideShapes
theorem iT(Z:an)(w:World){B:Nat}(K K':Int)(tv:Value)(t:List Int)(ht:HeldE (aF .i32) Z w tv t)(hB:B<=w.heap.size):OwnE cellE Z (w.alloc (.cells #[.int .i64 K,tv,.int .i64 K',.slice none 0 0] 147)) B 147 (.slice (some ⟨w.heap.size,0,none⟩) 2 2) [(K,t),(K',[])]:=by
 refine OwnE.lit w cellE [[.int .i64 K,tv],[.int .i64 K',.slice none 0 0]] _ 2 rfl rfl hB (by decide) (fun i hi=>?_) _ rfl
 match i,hi with
 | 0,_=>exact cell_rep.2 ⟨_,rfl,ht⟩
 | 1,_=>exact cell_rep.2 ⟨_,rfl,HeldE.nil _ _ _⟩
theorem iU(Z:an)(w:World){B:Nat}(K:Int)(tv:Value)(t:List Int)(ht:HeldE (aF .i32) Z w tv t)(hB:B<=w.heap.size):OwnE cellE Z (w.alloc (.cells #[.int .i64 K,tv] 147)) B 147 (.slice (some ⟨w.heap.size,0,none⟩) 1 1) [(K,t)]:=by
 refine OwnE.lit w cellE [[.int .i64 K,tv]] _ 1 rfl rfl hB (by decide) (fun i hi=>?_) _ rfl
 match i,hi with
 | 0,_=>exact cell_rep.2 ⟨_,rfl,ht⟩
theorem rQ(Z:an)(w:World){B:Nat}(hB:B<=w.heap.size):OwnE cellE Z (w.alloc (.cells #[.int .i64 0,.slice none 0 0,.int .i64 0,.slice none 0 0] 147)) B 147 (.slice (some ⟨w.heap.size,0,none⟩) 2 2) [zc,zc] :=
 iT Z w 0 0 _ [] (HeldE.nil _ _ _) hB
theorem nj(wide:Int)(xs:List Int)(t:List Int)(ht:t=(xs.take 16).map bg):(t=[]->2<=wide->ofC wide xs=[zc,zc])/\(t=[]->¬ 2<=wide->ofC wide xs=[zc])/\(t≠[]->2<=wide->ofC wide xs=[(2,t),(3,[])])/\(t≠[]->¬ 2<=wide->ofC wide xs=[(1,t)]):=by
 subst ht;unfold ofC;refine ⟨fun h1 h2=>?_,fun h1 h2=>?_,fun h1 h2=>?_,fun h1 h2=>?_⟩
 ·simp only [h1,List.length_nil,if_true,if_pos h2]
 ·simp only [h1,List.length_nil,if_true,if_neg h2]
 ·simp only [if_neg (fun h=>h1 (List.eq_nil_of_length_eq_zero h)),if_pos h2]
 ·simp only [if_neg (fun h=>h1 (List.eq_nil_of_length_eq_zero h)),if_neg h2]
theorem zq(Z Y:an)(wide:Int)(v:Value)(xs:List Int)(w:World)(hZ:∀ b,w.heap.size<=b->Z b)(hv:HeldE (aF .i32) Y w v xs):Calls Tryz.prog 190 #[.int .i64 wide,v] w (fp cellE Z 147 w (ofC wide xs)):=by
 have hl:=hv.max;obtain ⟨ao,cap,rfl,Cd,hcm,EX,hcc⟩:=id hv;obtain ⟨m,hm⟩:=ae (min xs.length 16);have NY:min (xs.length:Int) 16=(m:Int):=by omega
 have F5:m<=xs.length:=by omega
 have Ow:(m:Int)<=(cap:Int):=by omega
 have ht16:(xs.take 16)=xs.take m:=by
  rw [hm]
  by_cases h:xs.length<=16
  ·rw [Nat.min_eq_left h,List.take_length,List.take_of_length_le h]
  ·rw [Nat.min_eq_right (by omega)]
 have hpart:HeldE (aF .i32) Y w (.slice ao m cap) (xs.take m):=by
  have:=hv.part 0 m (Nat.zero_le _) F5 ao cap (fun h=>⟨h,(EX h).2⟩) (fun b off e _=>by simp [e]) (fun a e=>by rw [e];simp) (by omega) hcm
  simpa using this
 obtain ⟨t,ht⟩:=ae ((xs.take 16).map bg);have Je:=ab (nj wide xs t ht);have hR:=kD _ _ w hpart.ints (by simp;omega);rw [<-ht16,<-ht] at hR;have HR:=ab hR;have HT:=ab ht;clear hR ht hpart ht16 hm hcc EX Cd hcm hv
 by_cases h2:2<=wide
 all_goals
  go_enter Tryz.func190,Tryz.ntmps190
  go_wp2_with fail
  refine HR.out.mono ?_;rintro e w1 ⟨v1,rfl,BX,hb1⟩;have hh:=(dM (Z:=Z) BX).held (fun b hb _=>hZ b hb);obtain ⟨a1,c1,rfl⟩:=hh.len;have HH:=ab hh;have Bt:=ab hb1;clear BX hh hb1
  cases t with
  |nil =>
   go_wp2_with fail
   refine (iV Z _ _).mono ?_;rintro e w2 ⟨v2,rfl,BE,hb2⟩;have HO:=ab (BE.base (Bt.out.size));have HB:=ab (Bt.out.trans (hb2.mono Bt.out.size));clear BE hb2;go_wp2;go_ret;refine ⟨_,rfl,?_,HB.out⟩
   first
    |(rw [Je.out.1 (by simp) h2];exact HO.out)
    |(rw [Je.out.2.1 (by simp) h2];exact HO.out)
  |cons x t =>
   have Dt:0<(x :: t).length:=by simp
   obtain ⟨t0,KH⟩:=ae (x :: t);have hne:t0≠[]:=by rw [KH];simp
   rw [<-KH] at HH Je Dt ⊢;have JC:=ab hne;clear KH hne HT HR;have hz:((t0.length:Int) == 0)=false:=by rw [beq_eq_false_iff_ne];omega
   have KG:=ab (iT Z w1 (B:=w.heap.size) 2 3 _ t0 HH.out Bt.out.size);have Oh:=ab (iU Z w1 (B:=w.heap.size) 1 _ t0 HH.out Bt.out.size);go_wp2;go_ret;refine ⟨_,rfl,?_,Bt.out.alloc Bt.out.size _⟩
   first
    |(rw [Je.out.2.2.1 JC.out h2];exact KG.out)
    |(rw [Je.out.2.2.2 JC.out h2];exact Oh.out)
theorem iI(xs:List Int)(k:Nat)(h:k<xs.length):(xs.take (k+1)).map bg=(xs.take k).map bg++[bg (xs.getD k 0)]:=by
 rw [List.take_succ_eq_append_getElem h,List.map_append]
 simp [List.getD,List.getElem?_eq_getElem h]
theorem xF(Z Y:an)(wide:Int)(v:Value)(xs:List Int)(w:World)(hZ:∀ b,w.heap.size<=b->Z b)(hv:HeldE (aF .i32) Y w v xs):Calls Tryz.prog 144 #[.int .i64 wide,v] w (fp cellE Z 147 w (ofC wide xs)):=by
 have hl:=hv.max;obtain ⟨ao,cap,rfl,hc⟩:=hv.ints.view;have HC:=ab hc;have Je:=ab (fun t (ht:t=(xs.take 16).map bg)=>nj wide xs t ht);clear hc hv
 go_enter Tryz.func144,Tryz.ntmps144
 go_wp2
 go_loopw [5,6] (fun t i wr=>∃ k:Nat,k<=xs.length/\k<=16/\i=.int .i64 k/\OwnE (aF .i32) (fun _=>True) wr w.heap.size 21 t ((xs.take k).map bg)/\Below w.heap.size w wr) (fun _ i _=>16 - (intOf i).toNat)
 case atStart=>exact ⟨0,Nat.zero_le _,Nat.zero_le _,rfl,OwnE.nil _ _ _ _ _,Below.refl _ _⟩
 case round =>
  obtain ⟨k,hk,hk16,rfl,hown,AY⟩:=hrel;have Bf:=ab AY;clear AY
  by_cases hlt:k<xs.length/\k<16
  ·obtain ⟨hlt,hlt16⟩:=hlt;obtain ⟨b,off,rfl,hb,B0⟩:=HC.out k hlt;have B0:=(Bf.out.cell (p:=⟨b,off+k,none⟩) hb).trans B0;have hs:=iI xs k hlt;have hlen:((xs.take k).map bg).length<=16:=by simp;omega
   obtain ⟨x,hx⟩:=ae (xs.getD k 0);rw [<-hx] at B0 hs;obtain ⟨P0,hP⟩:=ae ((xs.take k).map bg);rw [<-hP] at hown hs hlen;have HS:=ab hs;clear hs hP hx;have BJ:=hown.lt;have HX:=ab (fun y:Int=>show HeldE (aF .i32) (fun b=>True/\_≠some b) (wr.alloc (.cells [Value.int .i32 y].toArray 21)) (.slice (some ⟨wr.heap.size,0,none⟩) 1 1) [y] from aT (Y:=fun _=>False) [.int .i32 y] y rfl (fun _ _ h=>h.elim) ⟨trivial,fun e=>by have:=(BJ _ e).2;omega⟩);have HO:=ab (fun y:Int=>hown.below (AU wr (.cells [Value.int .i32 y].toArray 21)));have Bt:=ab (fun y:Int=>Bf.out.alloc Bf.out.size (.cells [Value.int .i32 y].toArray 21));clear hown BJ
   cases hvx:bj x with
   |true =>
    have HV:=ab hvx;clear hvx
    go_wp2_with fail
    refine (jt _ _).mono ?_;rintro e w' ⟨rfl,rfl⟩;rw [HV.out]
    go_wp2_with (at_builtin;refine ax (E:=aF .i32) (Z:=fun _=>True) rfl (.tmp 23) (.tmp 28) 27 rfl (.int .i32 0) 4 Tryz.underlying27 nl rfl (Nat.lt_succ_self 0) rfl rfl (HO.out x) (HX.out x) (by simp;omega) (by simp;omega) (Bt.out x).size ?_)
    intro v2 w2 BE hb2 _ _;have hb3:=(Bt.out x).trans hb2;have e:bg x=x:=by unfold bg;rw [if_pos HV.out]
    rw [e] at HS;rw [<-HS.out] at BE;have H2:=ab BE;have H3:=ab hb3;clear BE hb2 hb3 e;go_wp2
    go_roundw
    case rel=>exact ⟨k+1,by omega,by omega,by go_num,H2.out,H3.out⟩
    case measure=>simp [intOf] <;> omega
   |false =>
    have HV:=ab hvx;clear hvx
    go_wp2_with fail
    refine (jt _ _).mono ?_;rintro e w' ⟨rfl,rfl⟩;rw [HV.out]
    go_wp2_with (at_builtin;refine ax (E:=aF .i32) (Z:=fun _=>True) rfl (.tmp 30) (.tmp 31) 27 rfl (.int .i32 0) 4 Tryz.underlying27 nl rfl (Nat.lt_succ_self 0) rfl rfl (HO.out 65533) (HX.out 65533) (by simp;omega) (by simp;omega) (Bt.out 65533).size ?_)
    intro v2 w2 BE hb2 _ _;have hb3:=(Bt.out 65533).trans hb2;have e:bg x=65533:=by unfold bg;rw [if_neg (by rw [HV.out];decide)]
    rw [e] at HS;rw [<-HS.out] at BE;have H2:=ab BE;have H3:=ab hb3;clear BE hb2 hb3 e;go_wp2
    go_roundw
    case rel=>exact ⟨k+1,by omega,by omega,by go_num,H2.out,H3.out⟩
    case measure=>simp [intOf] <;> omega
  ·have ht:(xs.take k).map bg=(xs.take 16).map bg:=by
    rcases Nat.lt_or_ge k 16 with h | h
    ·rw [List.take_of_length_le (show xs.length<=k by omega),List.take_of_length_le (show xs.length<=16 by omega)]
    ·rw [show k=16 by omega]
   obtain ⟨t,NN⟩:=ae ((xs.take k).map bg);rw [<-NN] at ht hown;have Je:=ab (Je.out t ht);have hh:=(dM (Z:=Z) hown.ints).held (fun b hb _=>hZ b hb);obtain ⟨a1,c1,rfl⟩:=hh.len;have HH:=ab hh;have hcase:(xs.length<=k)\/(k<xs.length/\k=16):=by omega
   clear hlt ht hown hh NN;have HZ2:=ab (rQ Z wr Bf.out.size);have HZ1:=ab (iU Z wr 0 _ [] (HeldE.nil _ _ _) Bf.out.size)
   by_cases h2:2<=wide <;> cases t with
   |nil =>
    rcases hcase with hc | ⟨hc,rfl⟩
    all_goals
     go_wp2;go_ret;refine ⟨_,rfl,?_,Bf.out.alloc Bf.out.size _⟩
     first
      |(rw [Je.out.1 (by simp) h2];exact HZ2.out)
      |(rw [Je.out.2.1 (by simp) h2];exact HZ1.out)
   |cons x t =>
    obtain ⟨t0,KH⟩:=ae (x :: t);have hne:t0≠[]:=by rw [KH];simp
    have Dt:0<t0.length:=by rw [KH];simp
    rw [<-KH] at HH Je ⊢;have JC:=ab hne;clear KH hne;have hz:((t0.length:Int) == 0)=false:=by rw [beq_eq_false_iff_ne];omega
    have KG:=ab (iT Z wr (B:=w.heap.size) 2 3 _ t0 HH.out Bf.out.size);have Oh:=ab (iU Z wr (B:=w.heap.size) 1 _ t0 HH.out Bf.out.size)
    rcases hcase with hc | ⟨hc,rfl⟩
    all_goals
     go_wp2;go_ret;refine ⟨_,rfl,?_,Bf.out.alloc Bf.out.size _⟩
     first
      |(rw [Je.out.2.2.1 JC.out h2];exact KG.out)
      |(rw [Je.out.2.2.2 JC.out h2];exact Oh.out)
end Go.Proofs.YtoeggiplcaegoaaGreatDoor
