import Derived.Test.YtechjomepdahiaaDoorZ0
import Derived.Test.YtechjomepdahiaaDoorCellO
import Derived.Test.YtechjomepdahiaaDoorCellC
set_option maxRecDepth 100000
set_option linter.unusedVariables false
set_option linter.unusedSimpArgs false
set_option maxHeartbeats 800000
namespace Go.Proofs.YtechjomepdahiaaDoor
open Go.RowKit Go.ChangeShapes Go.WideShapes
theorem dV(Z:ai)(w:World){B:Nat}(K K':Int)(tv:Value)(t:List Int)(ht:HeldE (bj .i32) Z w tv t)(hB:B<=w.heap.size):OwnE cellE Z (w.alloc (.cells #[.int .i64 K,tv,.int .i64 K',.slice none 0 0] 85)) B 85 (.slice (some ⟨w.heap.size,0,none⟩) 2 2) [(K,t),(K',[])]:=by
 refine OwnE.lit w cellE [[.int .i64 K,tv],[.int .i64 K',.slice none 0 0]] _ 2 rfl rfl hB (by decide) (fun i hi=>?_) _ rfl
 match i,hi with
 | 0,_=>exact cell_rep.2 ⟨_,rfl,ht⟩
 | 1,_=>exact cell_rep.2 ⟨_,rfl,HeldE.nil _ _ _⟩
theorem dW(Z:ai)(w:World){B:Nat}(K:Int)(tv:Value)(t:List Int)(ht:HeldE (bj .i32) Z w tv t)(hB:B<=w.heap.size):OwnE cellE Z (w.alloc (.cells #[.int .i64 K,tv] 85)) B 85 (.slice (some ⟨w.heap.size,0,none⟩) 1 1) [(K,t)]:=by
 refine OwnE.lit w cellE [[.int .i64 K,tv]] _ 1 rfl rfl hB (by decide) (fun i hi=>?_) _ rfl
 match i,hi with
 | 0,_=>exact cell_rep.2 ⟨_,rfl,ht⟩
theorem eG(wide:Int)(xs:List Int)(t:List Int)(ht:t=(xs.take 16).map aZ):(t=[]->2<=wide->ofC wide xs=[zc,zc])/\(t=[]->¬ 2<=wide->ofC wide xs=[zc])/\(t≠[]->2<=wide->ofC wide xs=[(2,t),(3,[])])/\(t≠[]->¬ 2<=wide->ofC wide xs=[(1,t)]):=by
 subst ht;unfold ofC;refine ⟨fun h1 h2=>?_,fun h1 h2=>?_,fun h1 h2=>?_,fun h1 h2=>?_⟩
 ·simp only [h1,List.length_nil,if_true,if_pos h2]
 ·simp only [h1,List.length_nil,if_true,if_neg h2]
 ·simp only [if_neg (fun h=>h1 (List.eq_nil_of_length_eq_zero h)),if_pos h2]
 ·simp only [if_neg (fun h=>h1 (List.eq_nil_of_length_eq_zero h)),if_neg h2]
theorem eo(Z Y:ai)(wide:Int)(v:Value)(xs:List Int)(w:World)(hZ:∀ b,w.heap.size<=b->Z b)(hv:HeldE (bj .i32) Y w v xs):Calls Tryd.prog 42 #[.int .i64 wide,v] w (eV cellE Z 85 w (ofC wide xs)):=by
 have hl:=hv.max;obtain ⟨ao,cap,rfl,fO,hcm,ix,hcc⟩:=id hv;obtain ⟨m,hm⟩:=ab (min xs.length 16);have hm1:min (xs.length:Int) 16=(m:Int):=by omega
 have hm2:m<=xs.length:=by omega
 have il:(m:Int)<=(cap:Int):=by omega
 have ht16:(xs.take 16)=xs.take m:=by
  rw [hm]
  by_cases h:xs.length<=16
  ·rw [Nat.min_eq_left h,List.take_length,List.take_of_length_le h]
  ·rw [Nat.min_eq_right (by omega)]
 have hpart:HeldE (bj .i32) Y w (.slice ao m cap) (xs.take m):=by
  have:=hv.part 0 m (Nat.zero_le _) hm2 ao cap (fun h=>⟨h,(ix h).2⟩) (fun b off e _=>by simp [e]) (fun a e=>by rw [e];simp) (by omega) hcm
  simpa using this
 obtain ⟨t,ht⟩:=ab ((xs.take 16).map aZ);have iG:=aa (eG wide xs t ht);have hR:=dC _ _ w hpart.ints (by simp;omega);rw [<-ht16,<-ht] at hR;have HR:=aa hR;have HT:=aa ht;clear hR ht hpart ht16 hm hcc ix fO hcm hv
 by_cases h2:2<=wide
 all_goals
  go_enter Tryd.func42,Tryd.ntmps42
  go_wp2_with fail
  refine HR.out.mono ?_;rintro e w1 ⟨v1,rfl,ho1,hb1⟩;have hh:=(c7 (Z:=Z) ho1).held (fun b hb _=>hZ b hb);obtain ⟨a1,c1,rfl⟩:=hh.len;have HH:=aa hh;have fA:=aa hb1;clear ho1 hh hb1
  cases t with
  |nil =>
   go_wp2_with fail
   refine (cE Z _ _).mono ?_;rintro e w2 ⟨v2,rfl,f5,hb2⟩;have HO:=aa (f5.base (fA.out.size));have HB:=aa (fA.out.trans (hb2.mono fA.out.size));clear f5 hb2;go_wp2;go_ret;refine ⟨_,rfl,?_,HB.out⟩
   first
    |(rw [iG.out.1 (by simp) h2];exact HO.out)
    |(rw [iG.out.2.1 (by simp) h2];exact HO.out)
  |cons x t =>
   have gK:0<(x :: t).length:=by simp
   obtain ⟨t0,jn⟩:=ab (x :: t);have hne:t0≠[]:=by rw [jn];simp
   rw [<-jn] at HH iG gK ⊢;have HNE:=aa hne;clear jn hne HT HR;have hz:((t0.length:Int) == 0)=false:=by rw [beq_eq_false_iff_ne];omega
   have HP2:=aa (dV Z w1 (B:=w.heap.size) 2 3 _ t0 HH.out fA.out.size);have HP1:=aa (dW Z w1 (B:=w.heap.size) 1 _ t0 HH.out fA.out.size);go_wp2;go_ret;refine ⟨_,rfl,?_,fA.out.alloc fA.out.size _⟩
   first
    |(rw [iG.out.2.2.1 HNE.out h2];exact HP2.out)
    |(rw [iG.out.2.2.2 HNE.out h2];exact HP1.out)
end Go.Proofs.YtechjomepdahiaaDoor
