import Derived.Test.YtoeggiplcaegoaaGreatDoorZ0
import Derived.Test.YtoeggiplcaegoaaGreatDoorMg1
import Derived.Lib.MinMax
import Derived.Test.YtoeggiplcaegoaaGreatDoorProg
import Derived.Shelf.Abstract
import Derived.Deep.LoopGhost
import Derived.Lib.SmallJoins
import Derived.Deep.Slices
import Derived.Lib.AppendZeros
import Derived.Laws.StructEq
import Derived.StillTailTactics
set_option maxRecDepth 100000
set_option maxHeartbeats 1600000
namespace Go.Proofs.YtoeggiplcaegoaaGreatDoor
open Go.RowKit Go.ChangeShapes Go.WideShapes
def fk{α:Type}(E:Elem α)(Z:an)(ty:TypeId)(w:World)(L:List α)(e:Ending)(w':World):Prop:=∃ v',e=.returned v'/\OwnE E Z w' w.heap.size ty v' L/\Below w.heap.size w w'
theorem j5(C:List Value)(h0:0<C.length)(n:Nat):(madeCells C.toArray (n * C.length)).toList=(List.replicate n C).flatten:=by
 apply List.ext_getElem?
 intro i;have EJ:∀ D ∈ List.replicate n C,D.length=C.length:=fun D hD=>by rw [(List.mem_replicate.1 hD).2]
 by_cases hi:i<n * C.length
 ·have hd:i / C.length<n:=(Nat.div_lt_iff_lt_mul h0).2 hi;have hm:i % C.length<C.length:=Nat.mod_lt _ h0;have:=fX EJ (i / C.length) (i % C.length) (by simpa using hd) hm;rw [show i / C.length * C.length+i % C.length=i by rw [Nat.mul_comm];exact Nat.div_add_mod i C.length] at this;rw [this]
  simp [madeCells,hi,List.getD,hd,List.getElem?_replicate,List.getElem?_eq_getElem hm]
 ·rw [List.getElem?_eq_none (by simp [madeCells];omega),List.getElem?_eq_none (by rw [eq EJ];simp;omega)]
theorem lL(Z:an)(w:World):cellE.rep Z w [.int .i64 0,.slice none 0 0] zc:=cell_rep.2 ⟨_,rfl,HeldE.nil _ _ _⟩
theorem mV{Z:an}{w:World}{B n:Nat}{v:Value}(h:w.ownsRow B 147 2 v n (madeCells (Value.agg #[.int .i64 0,.slice none 0 0]).cells (n * 2)).toList):OwnE cellE Z w B 147 v (List.replicate n zc):=by
 refine ⟨List.replicate n [.int .i64 0,.slice none 0 0],?_,by simp,fun i hi=>?_⟩
 ·rw [<-j5 _ (by decide),List.length_replicate];exact h
 ·simp only [List.length_replicate] at hi;simp only [List.getD,List.getElem?_replicate,hi,if_true,Option.getD_some];exact lL _ _
def j6(n:Int):Nat:=(min (max n 0) 1024).toNat
theorem iO(Z:an)(n:Int)(w:World):Calls Tryz.prog 189 #[.int .i64 n] w (fk cellE Z 147 w (List.replicate (j6 n) zc)):=by
 obtain ⟨i0,hi,hz0,hz1,hz2⟩:=info_parts cD;have key:∀ m:Nat,m<=1024->min (max n 0) 1024=(m:Int)->Calls Tryz.prog 189 #[.int .i64 n] w (fk cellE Z 147 w (List.replicate m zc)):=by
  intro m hm he
  go_enter Tryz.func189,Tryz.ntmps189
  go_wp2_with (at_make;refine wpList_make_full w rfl (.tmp 5) (.tmp 5) 102 rfl w.heap.size 147 i0 (.agg #[.int .i64 0,.slice none 0 0]) 2 Tryz.underlying102 hi hz0 hz1 .i64 .i64 _ _ m rfl rfl rfl rfl (by rw [hz2];omega) (by unfold maxLen;omega) (Nat.le_refl _) ?_)
  intro w1 hown1 hg1;have hb1:Below w.heap.size w w1:=(Below.refl _ _).grown hg1 (Nat.le_refl _) (by intro k hk;cases hk);have ho:=mV (Z:=Z) hown1;clear hown1 hg1;go_wp2;go_ret;exact ⟨_,rfl,ho,hb1⟩
 have:=key (j6 n) (by unfold j6;omega) (by unfold j6;omega);exact this
theorem iM(Z:an)(w:World){B:Nat}(K K':Int)(tv:Value)(t:List Int)(ht:HeldE (aE .i32) Z w tv t)(hB:B<=w.heap.size):OwnE cellE Z (w.alloc (.cells #[.int .i64 K,tv,.int .i64 K',.slice none 0 0] 147)) B 147 (.slice (some ⟨w.heap.size,0,none⟩) 2 2) [(K,t),(K',[])]:=by
 refine OwnE.lit w cellE [[.int .i64 K,tv],[.int .i64 K',.slice none 0 0]] _ 2 rfl rfl hB (by decide) (fun i hi=>?_) _ rfl
 match i,hi with
 | 0,_=>exact cell_rep.2 ⟨_,rfl,ht⟩
 | 1,_=>exact cell_rep.2 ⟨_,rfl,HeldE.nil _ _ _⟩
theorem iN(Z:an)(w:World){B:Nat}(K:Int)(tv:Value)(t:List Int)(ht:HeldE (aE .i32) Z w tv t)(hB:B<=w.heap.size):OwnE cellE Z (w.alloc (.cells #[.int .i64 K,tv] 147)) B 147 (.slice (some ⟨w.heap.size,0,none⟩) 1 1) [(K,t)]:=by
 refine OwnE.lit w cellE [[.int .i64 K,tv]] _ 1 rfl rfl hB (by decide) (fun i hi=>?_) _ rfl
 match i,hi with
 | 0,_=>exact cell_rep.2 ⟨_,rfl,ht⟩
theorem rb(Z:an)(w:World){B:Nat}(hB:B<=w.heap.size):OwnE cellE Z (w.alloc (.cells #[.int .i64 0,.slice none 0 0,.int .i64 0,.slice none 0 0] 147)) B 147 (.slice (some ⟨w.heap.size,0,none⟩) 2 2) [zc,zc] :=
 iM Z w 0 0 _ [] (HeldE.nil _ _ _) hB
theorem mU(wide:Int)(xs:List Int)(t:List Int)(ht:t=(xs.take 16).map aS):(t=[]->2<=wide->ofC wide xs=[zc,zc])/\(t=[]->¬ 2<=wide->ofC wide xs=[zc])/\(t≠[]->2<=wide->ofC wide xs=[(2,t),(3,[])])/\(t≠[]->¬ 2<=wide->ofC wide xs=[(1,t)]):=by
 subst ht;unfold ofC;refine ⟨fun h1 h2=>?_,fun h1 h2=>?_,fun h1 h2=>?_,fun h1 h2=>?_⟩
 ·simp only [h1,List.length_nil,if_true,if_pos h2]
 ·simp only [h1,List.length_nil,if_true,if_neg h2]
 ·simp only [if_neg (fun h=>h1 (List.eq_nil_of_length_eq_zero h)),if_pos h2]
 ·simp only [if_neg (fun h=>h1 (List.eq_nil_of_length_eq_zero h)),if_neg h2]
theorem yh(Z Y:an)(wide:Int)(v:Value)(xs:List Int)(w:World)(hZ:∀ b,w.heap.size<=b->Z b)(hv:HeldE (aE .i32) Y w v xs):Calls Tryz.prog 190 #[.int .i64 wide,v] w (fk cellE Z 147 w (ofC wide xs)):=by
 have hl:=hv.max;obtain ⟨ao,cap,rfl,Bh,hcm,Et,hcc⟩:=id hv;obtain ⟨m,hm⟩:=ae (min xs.length 16);have Pk:min (xs.length:Int) 16=(m:Int):=by omega
 have Gb:m<=xs.length:=by omega
 have hm3:(m:Int)<=(cap:Int):=by omega
 have ht16:(xs.take 16)=xs.take m:=by
  rw [hm]
  by_cases h:xs.length<=16
  ·rw [Nat.min_eq_left h,List.take_length,List.take_of_length_le h]
  ·rw [Nat.min_eq_right (by omega)]
 have hpart:HeldE (aE .i32) Y w (.slice ao m cap) (xs.take m):=by
  have:=hv.part 0 m (Nat.zero_le _) Gb ao cap (fun h=>⟨h,(Et h).2⟩) (fun b off e _=>by simp [e]) (fun a e=>by rw [e];simp) (by omega) hcm
  simpa using this
 obtain ⟨t,ht⟩:=ae ((xs.take 16).map aS);have IN:=ab (mU wide xs t ht);have hR:=gP _ _ w hpart.ints (by simp;omega);rw [<-ht16,<-ht] at hR;have HR:=ab hR;have HT:=ab ht;clear hR ht hpart ht16 hm hcc Et Bh hcm hv
 by_cases h2:2<=wide
 all_goals
  go_enter Tryz.func190,Tryz.ntmps190
  go_wp2_with fail
  refine HR.out.mono ?_;rintro e w1 ⟨v1,rfl,AA,hb1⟩;have hh:=(dH (Z:=Z) AA).held (fun b hb _=>hZ b hb);obtain ⟨a1,c1,rfl⟩:=hh.len;have HH:=ab hh;have Ag:=ab hb1;clear AA hh hb1
  cases t with
  | nil =>
   go_wp2_with fail
   refine (iO Z _ _).mono ?_;rintro e w2 ⟨v2,rfl,Ap,hb2⟩;have HO:=ab (Ap.base (Ag.out.size));have HB:=ab (Ag.out.trans (hb2.mono Ag.out.size));clear Ap hb2;go_wp2;go_ret;refine ⟨_,rfl,?_,HB.out⟩
   first
    |(rw [IN.out.1 (by simp) h2];exact HO.out)
    |(rw [IN.out.2.1 (by simp) h2];exact HO.out)
  | cons x t =>
   have Ct:0<(x :: t).length:=by simp
   obtain ⟨t0,J6⟩:=ae (x :: t);have hne:t0≠[]:=by rw [J6];simp
   rw [<-J6] at HH IN Ct ⊢;have Lf:=ab hne;clear J6 hne HT HR;have hz:((t0.length:Int) == 0)=false:=by rw [beq_eq_false_iff_ne];omega
   have Pv:=ab (iM Z w1 (B:=w.heap.size) 2 3 _ t0 HH.out Ag.out.size);have DR:=ab (iN Z w1 (B:=w.heap.size) 1 _ t0 HH.out Ag.out.size);go_wp2;go_ret;refine ⟨_,rfl,?_,Ag.out.alloc Ag.out.size _⟩
   first
    |(rw [IN.out.2.2.1 Lf.out h2];exact Pv.out)
    |(rw [IN.out.2.2.2 Lf.out h2];exact DR.out)
theorem iA(xs:List Int)(k:Nat)(h:k<xs.length):(xs.take (k+1)).map aS=(xs.take k).map aS++[aS (xs.getD k 0)]:=by
 rw [List.take_succ_eq_append_getElem h,List.map_append]
 simp [List.getD,List.getElem?_eq_getElem h]
theorem vS(Z Y:an)(wide:Int)(v:Value)(xs:List Int)(w:World)(hZ:∀ b,w.heap.size<=b->Z b)(hv:HeldE (aE .i32) Y w v xs):Calls Tryz.prog 144 #[.int .i64 wide,v] w (fk cellE Z 147 w (ofC wide xs)):=by
 have hl:=hv.max;obtain ⟨ao,cap,rfl,hc⟩:=hv.ints.view;have HC:=ab hc;have IN:=ab (fun t (ht:t=(xs.take 16).map aS)=>mU wide xs t ht);clear hc hv
 go_enter Tryz.func144,Tryz.ntmps144
 go_wp2
 go_loopw [5,6] (fun t i wr=>∃ k:Nat,k<=xs.length/\k<=16/\i=.int .i64 k/\OwnE (aE .i32) (fun _=>True) wr w.heap.size 21 t ((xs.take k).map aS)/\Below w.heap.size w wr) (fun _ i _=>16 - (intOf i).toNat)
 case atStart=>exact ⟨0,Nat.zero_le _,Nat.zero_le _,rfl,OwnE.nil _ _ _ _ _,Below.refl _ _⟩
 case round =>
  obtain ⟨k,hk,hk16,rfl,hown,zN⟩:=hrel;have z5:=ab zN;clear zN
  by_cases hlt:k<xs.length/\k<16
  ·obtain ⟨hlt,hlt16⟩:=hlt;obtain ⟨b,off,rfl,hb,AX⟩:=HC.out k hlt;have AX:=(z5.out.cell (p:=⟨b,off+k,none⟩) hb).trans AX;have hs:=iA xs k hlt;have hlen:((xs.take k).map aS).length<=16:=by simp;omega
   obtain ⟨x,hx⟩:=ae (xs.getD k 0);rw [<-hx] at AX hs;obtain ⟨P0,hP⟩:=ae ((xs.take k).map aS);rw [<-hP] at hown hs hlen;have HS:=ab hs;clear hs hP hx;have AF:=hown.lt;have HX:=ab (fun y:Int=>show HeldE (aE .i32) (fun b=>True/\_≠some b) (wr.alloc (.cells [Value.int .i32 y].toArray 21)) (.slice (some ⟨wr.heap.size,0,none⟩) 1 1) [y] from aO (Y:=fun _=>False) [.int .i32 y] y rfl (fun _ _ h=>h.elim) ⟨trivial,fun e=>by have:=(AF _ e).2;omega⟩);have HO:=ab (fun y:Int=>hown.below (zI wr (.cells [Value.int .i32 y].toArray 21)));have Ag:=ab (fun y:Int=>z5.out.alloc z5.out.size (.cells [Value.int .i32 y].toArray 21));clear hown AF
   cases hvx:bg x with
   | true =>
    have HV:=ab hvx;clear hvx
    go_wp2_with fail
    refine (eR _ _).mono ?_;rintro e w' ⟨rfl,rfl⟩;rw [HV.out]
    go_wp2_with (at_builtin;refine aw (E:=aE .i32) (Z:=fun _=>True) rfl (.tmp 23) (.tmp 28) 27 rfl (.int .i32 0) 4 Tryz.underlying27 mW rfl (Nat.lt_succ_self 0) rfl rfl (HO.out x) (HX.out x) (by simp;omega) (by simp;omega) (Ag.out x).size ?_)
    intro v2 w2 Ap hb2 _ _;have hb3:=(Ag.out x).trans hb2;have e:aS x=x:=by unfold aS;rw [if_pos HV.out]
    rw [e] at HS;rw [<-HS.out] at Ap;have H2:=ab Ap;have H3:=ab hb3;clear Ap hb2 hb3 e;go_wp2
    go_roundw
    case rel=>exact ⟨k+1,by omega,by omega,by go_num,H2.out,H3.out⟩
    case measure=>simp [intOf] <;> omega
   | false =>
    have HV:=ab hvx;clear hvx
    go_wp2_with fail
    refine (eR _ _).mono ?_;rintro e w' ⟨rfl,rfl⟩;rw [HV.out]
    go_wp2_with (at_builtin;refine aw (E:=aE .i32) (Z:=fun _=>True) rfl (.tmp 30) (.tmp 31) 27 rfl (.int .i32 0) 4 Tryz.underlying27 mW rfl (Nat.lt_succ_self 0) rfl rfl (HO.out 65533) (HX.out 65533) (by simp;omega) (by simp;omega) (Ag.out 65533).size ?_)
    intro v2 w2 Ap hb2 _ _;have hb3:=(Ag.out 65533).trans hb2;have e:aS x=65533:=by unfold aS;rw [if_neg (by rw [HV.out];decide)]
    rw [e] at HS;rw [<-HS.out] at Ap;have H2:=ab Ap;have H3:=ab hb3;clear Ap hb2 hb3 e;go_wp2
    go_roundw
    case rel=>exact ⟨k+1,by omega,by omega,by go_num,H2.out,H3.out⟩
    case measure=>simp [intOf] <;> omega
  ·have ht:(xs.take k).map aS=(xs.take 16).map aS:=by
    rcases Nat.lt_or_ge k 16 with h | h
    ·rw [List.take_of_length_le (show xs.length<=k by omega),List.take_of_length_le (show xs.length<=16 by omega)]
    ·rw [show k=16 by omega]
   obtain ⟨t,Ni⟩:=ae ((xs.take k).map aS);rw [<-Ni] at ht hown;have IN:=ab (IN.out t ht);have hh:=(dH (Z:=Z) hown.ints).held (fun b hb _=>hZ b hb);obtain ⟨a1,c1,rfl⟩:=hh.len;have HH:=ab hh;have hcase:(xs.length<=k)\/(k<xs.length/\k=16):=by omega
   clear hlt ht hown hh Ni;have HZ2:=ab (rb Z wr z5.out.size);have HZ1:=ab (iN Z wr 0 _ [] (HeldE.nil _ _ _) z5.out.size)
   by_cases h2:2<=wide <;> cases t with
   | nil =>
    rcases hcase with hc | ⟨hc,rfl⟩
    all_goals
     go_wp2;go_ret;refine ⟨_,rfl,?_,z5.out.alloc z5.out.size _⟩
     first
      |(rw [IN.out.1 (by simp) h2];exact HZ2.out)
      |(rw [IN.out.2.1 (by simp) h2];exact HZ1.out)
   | cons x t =>
    obtain ⟨t0,J6⟩:=ae (x :: t);have hne:t0≠[]:=by rw [J6];simp
    have Ct:0<t0.length:=by rw [J6];simp
    rw [<-J6] at HH IN ⊢;have Lf:=ab hne;clear J6 hne;have hz:((t0.length:Int) == 0)=false:=by rw [beq_eq_false_iff_ne];omega
    have Pv:=ab (iM Z wr (B:=w.heap.size) 2 3 _ t0 HH.out z5.out.size);have DR:=ab (iN Z wr (B:=w.heap.size) 1 _ t0 HH.out z5.out.size)
    rcases hcase with hc | ⟨hc,rfl⟩
    all_goals
     go_wp2;go_ret;refine ⟨_,rfl,?_,z5.out.alloc z5.out.size _⟩
     first
      |(rw [IN.out.2.2.1 Lf.out h2];exact Pv.out)
      |(rw [IN.out.2.2.2 Lf.out h2];exact DR.out)
theorem vU{a b:List Cl}(hl:b.length=a.length)(h:∀ j,j<a.length->a.getD j zc=b.getD j zc):kq a b=true:=by
 unfold kq;rw [decide_eq_true_eq]
 apply List.ext_getElem hl.symm
 intro i h1 h2;have:=h i h1
 simpa [List.getD,List.getElem?_eq_getElem h1,List.getElem?_eq_getElem h2] using this
theorem tE{a b:List Cl}(j:Nat)(h:a.getD j zc≠b.getD j zc):kq a b=false:=by
 unfold kq;rw [decide_eq_false_iff_not];rintro rfl;exact h rfl
theorem tF{a b:List Cl}(h:¬ b.length=a.length):kq a b=false:=by
 unfold kq;rw [decide_eq_false_iff_not];rintro rfl;exact h rfl
def AlikeC(a b:List Cl)(k:Nat):Prop:=∀ j,j<k->a.getD j zc=b.getD j zc
theorem AlikeC.next{a b:List Cl}{k:Nat}(h:AlikeC a b k)(e:a.getD k zc=b.getD k zc):AlikeC a b (k+1):=by
 intro j hj
 by_cases h2:j=k
 ·subst h2;exact e
 ·exact h j (by omega)
theorem re(Z Y:an)(v u:Value)(a b:List Cl)(w:World)(hx:HeldE cellE Z w v a)(hy:HeldE cellE Y w u b):Calls Tryz.prog 146 #[v,u] w (Gives w (.bool (kq a b))):=by
 have NE:=hx.max;obtain ⟨ao,ca,rfl⟩:=hx.len;obtain ⟨bo,cb,rfl⟩:=hy.len;obtain ⟨_,_,hc⟩:=fl hx;obtain ⟨_,_,hd⟩:=fl hy;have HC:=ab hc;have HD:=ab hd;clear hc hd hx hy
 by_cases hl:b.length=a.length
 ·have HL:=ab hl;rw [hl];clear hl
  go_enter Tryz.func146,Tryz.ntmps146
  go_wp2
  go_loopw [5] (fun i wr=>∃ k:Nat,k<=a.length/\i=.int .i64 k/\AlikeC a b k/\Below w.heap.size w wr) (fun i _=>a.length - (intOf i).toNat)
  case atStart=>exact ⟨0,Nat.zero_le _,rfl,(fun j hj=>by omega),Below.refl _ _⟩
  case round =>
   obtain ⟨k,hk,rfl,I7,zN⟩:=hrel;have HA:=ab I7;have z5:=ab zN;clear I7 zN
   by_cases hlt:k<a.length
   ·obtain ⟨b1,o1,tv,rfl,hb1,_,c0,c1,hh⟩:=HC.out k hlt;obtain ⟨b2,o2,tu,rfl,hb2,_,d0,d1,hi⟩:=HD.out k (by rw [HL.out];exact hlt);have hlen:=hh.max;have hh:=hh.ints;have hi:=hi.ints;have c0:=(z5.out.cell (p:=⟨b1,o1+k * 2,none⟩) hb1).trans c0;have c1:=(z5.out.cell (p:=⟨b1,o1+k * 2+1,none⟩) hb1).trans c1;have d0:=(z5.out.cell (p:=⟨b2,o2+k * 2,none⟩) hb2).trans d0;have d1:=(z5.out.cell (p:=⟨b2,o2+k * 2+1,none⟩) hb2).trans d1;have Jk:=HA.out.next;have hno:=tE (a:=a) (b:=b) k;obtain ⟨⟨K,T⟩,Es⟩ : ∃ y,y=a.getD k zc:=⟨_,rfl⟩;obtain ⟨⟨K',T'⟩,JZ⟩ : ∃ y,y=b.getD k zc:=⟨_,rfl⟩;rw [<-Es] at c0 hh hlen Jk hno;rw [<-JZ] at d0 hi Jk hno;simp only at c0 hh hlen d0 hi;have HH:=ab (hh.below z5.out);have HI:=ab (hi.below z5.out);have Bg:=ab Jk;have Ny:=ab hno;clear Es JZ hh hi Jk hno;obtain ⟨wk,KF⟩:=ae (wr);subst KF;have c0:=aj c0;have c1:=aj c1;have d0:=aj d0;have d1:=aj d1
    by_cases hk:K=K'
    ·subst hk;have Eu:(K != K)=false:=by simp
     have HQ:=ab (fun u:Growth wk=>ly tv tu T T' (ext wk u) (HH.out.below u.ok) (HI.out.below u.ok) hlen)
     cases hs:gQ T T' with
     | true =>
      have HS:=ab hs;rw [hs] at HQ;clear hs;go_wp2;refine aI (by kernel_rfl) (by kernel_rfl) ?_
      repeat (go_big_quiet_step (((go_at_call 21;exact dY (HQ.out _)))))
      refine wpQuiet_nil ?_;intro _ hw';obtain ⟨u,hw''⟩:=hw';subst hw'';have HE:=ab (aW z5.out u);go_wp2
      go_roundw
      case rel=>exact ⟨k+1,by omega,by go_num,Bg.out (by have:=of_decide_eq_true HS.out;rw [this]),HE.out⟩
      case measure=>simp [intOf];omega
     | false =>
      have HS:=ab hs;rw [hs] at HQ;clear hs;go_wp2;refine aI (by kernel_rfl) (by kernel_rfl) ?_
      repeat (go_big_quiet_step (((go_at_call 21;exact dY (HQ.out _)))))
      refine wpQuiet_nil ?_;intro _ hw';obtain ⟨u,hw''⟩:=hw';subst hw'';have HE:=ab (aW z5.out u);go_wp2;go_ret;exact ⟨al (by rw [Ny.out (fun e=>of_decide_eq_false HS.out (congrArg Prod.snd e))];try rfl),HE.out⟩
    ·have Eu:(K != K')=true:=by simpa using hk
     have HK:=ab hk;clear hk;go_wp2;refine aI (by kernel_rfl) (by kernel_rfl) ?_
     repeat (go_big_quiet_step ((fail)))
     refine wpQuiet_nil ?_;intro _ hw';obtain ⟨u,hw''⟩:=hw';subst hw'';have HE:=ab (aW z5.out u);go_wp2;go_ret;exact ⟨al (by rw [Ny.out (fun e=>HK.out (congrArg Prod.fst e))];try rfl),HE.out⟩
   ·obtain rfl:k=a.length:=by omega
    have E:=ab (vU HL.out HA.out);go_wp2;go_ret;exact ⟨al (by rw [E.out];try rfl),z5.out⟩
 ·have E:=ab (tF hl);have hl2:¬ a.length=b.length:=fun h=>hl h.symm
  go_enter Tryz.func146,Tryz.ntmps146
  go_wp2;go_ret;exact ⟨al (by rw [E.out];try rfl),Below.refl _ _⟩
theorem HeldE.ownedInts{B:Nat}{w:World}{n:Nat}{v:Value}{ty:TypeId}{xs:List Int}(h:w.ownsRow B ty 1 v n (xs.map (Value.int .i32))):HeldE (aE .i32) (fun b=>B<=b) w v xs:=(dH (Z:=fun b=>B<=b) h).held fun _ hb _=>hb
def yg(w:World)(K:Int)(T:List Int)(e:Ending)(w':World):Prop:=∃ tv',e=.returned (.agg #[.int .i64 K,tv'])/\HeldE (aE .i32) (fun b=>w.heap.size<=b) w' tv' T/\Below w.heap.size w w'
def vR(w:World)(K:Int)(T:List Int)(e:Ending)(w':World):Prop:=∃ tv',e=.returned (.agg #[.int .i64 K,tv'])/\OwnE (aE .i32) (fun _=>True) w' w.heap.size 21 tv' T/\Below w.heap.size w w'
theorem OwnE.heldInts{B:Nat}{w:World}{Z:an}{v:Value}{ty:TypeId}{xs:List Int}(h:OwnE (aE .i32) Z w B ty v xs):HeldE (aE .i32) (fun b=>B<=b) w v xs:=HeldE.ownedInts h.ints
theorem OwnE.anyInts{B:Nat}{w:World}{Z Y:an}{v:Value}{ty:TypeId}{xs:List Int}(h:OwnE (aE .i32) Z w B ty v xs):OwnE (aE .i32) Y w B ty v xs:=dH h.ints
theorem lJ(K:Int)(tv:Value)(T:List Int)(w:World)(ht:Held .i32 w tv T)(hl:T.length<=1000000000):Calls Tryz.prog 153 #[.agg #[.int .i64 K,tv]] w (vR w K T):=by
 have HT:=ab ht;obtain ⟨ao,cap,rfl,_⟩:=ht.view;clear ht;obtain ⟨w2,hw2⟩:=ae ((w.alloc (.cells #[.int .i64 K,.slice ao T.length cap] 147)).alloc (.cells #[.int .i64 0,.slice none 0 0] 147));have hb2:Below w.heap.size w w2:=by rw [hw2];exact (zI _ _).alloc (by simp) _
 have hs2:w2.heap.size=w.heap.size+2:=by rw [hw2];simp
 have hg:Has w2 w.heap.size [.int .i64 K,.slice ao T.length cap] 147:=by rw [hw2];exact (Has.new w _ _).alloc _
 have hr:Has w2 (w.heap.size+1) [.int .i64 0,.slice none 0 0] 147:=by
  rw [hw2];have:=Has.new (w.alloc (.cells #[.int .i64 K,.slice ao T.length cap] 147)) [.int .i64 0,.slice none 0 0] 147;rw [World.size_alloc] at this;exact this
 have AM:=ab hb2;have Do:=ab hs2;have HG:=ab hg;have HRR:=ab hr;have HC:=ab (lr _ T w2 (HT.out.below hb2) hl);rw [hw2] at HC;have Hc:=ab hw2;clear hw2 hb2 hs2 hg hr
 go_enter Tryz.func153,Tryz.ntmps153
 go_wp2_with fail
 refine HC.out.mono ?_;rintro e w3 ⟨v5,rfl,EN,b5⟩;rw [<-Hc.out] at EN b5;have hs3:w.heap.size+2<=w3.heap.size:=by rw [<-Do.out];exact b5.size
 have g3:=HG.out.below b5 HG.out.lt;have r3:=HRR.out.below b5 HRR.out.lt;have c0:=g3.cell 0 _ rfl;have c1:=g3.cell 1 _ rfl;have f0:=g3.free 0;have f1:=g3.free 1;have d0:=r3.cell 0 _ rfl;have d1:=r3.cell 1 _ rfl;have e0:=r3.free 0;have e1:=r3.free 1;have HO:=ab (dH (Z:=fun _=>False) EN);have HH:=ab (HeldE.ownedInts EN);have Bf:=ab (AM.out.trans (b5.mono AM.out.size));have Fq:=ab hs3;obtain ⟨a5,c5,e5⟩:=HH.out.len;clear EN b5 g3 r3 hs3;subst e5;go_wp2;refine bodyPost_ret (v:=.agg #[.int .i64 K,.slice a5 T.length c5]) (by simp [results,Tryz.results153,go_sem,c0,c1,f0,f1,d0,d1,e0,e1]) rfl ⟨_,rfl,?_,?_⟩
 ·exact OwnE.anyInts (OwnE.base (OwnE.upd HO.out (((((Upd.refl (fun b=>b<w.heap.size+2) w3).setCell (.inl (by simp)) _).setCell (.inl (by simp)) _).setCell (.inl (by simp)) _)) (fun b h k=>by
   rcases h with h | h
   ·exact h
   ·have:=(HO.out.lt b h).1;rw [Do.out] at this;omega)) (by rw [Do.out];omega))
 ·exact (((Bf.out.setCell (by simp) _).setCell (by simp) _).setCell (by simp) _)
theorem lK(K:Int)(tv:Value)(T:List Int)(w:World)(ht:Held .i32 w tv T)(hl:T.length<=1000000000):Calls Tryz.prog 153 #[.agg #[.int .i64 K,tv]] w (yg w K T) :=
 (lJ K tv T w ht hl).mono fun _ _ ⟨v,e,h,b⟩=>⟨v,e,h.heldInts,b⟩
theorem OwnE.some{α:Type}{E:Elem α}{Z:an}{w:World}{B:Nat}{ty:TypeId}{v:Value}{L:List α}(h:OwnE E Z w B ty v L)(hl:0<L.length):∃ g cap,v=.slice (some ⟨g,0,none⟩) L.length cap/\B<=g/\g<w.heap.size:=by
 obtain ⟨CS,h1,_⟩:=h
 rcases h1.2 with ⟨rfl,h0⟩ | ⟨g,cap,cur,rfl,hB,hg,_⟩
 ·omega
 ·exact ⟨g,cap,rfl,hB,(Array.getElem?_eq_some_iff.1 hg).1⟩
theorem OwnE.zone{α:Type}{E:Elem α}{Z Y:an}{w:World}{B:Nat}{ty:TypeId}{v:Value}{L:List α}(h:OwnE E Z w B ty v L)(hy:∀ b,b<w.heap.size->Z b->Y b):OwnE E Y w B ty v L:=h.keep (.refl _ _) hy
theorem pK(v:Value)(L:List Cl)(w:World)(hv:HeldE cellE (fun b=>b<w.heap.size) w v L)(hl:L.length<=1000000):Calls Tryz.prog 193 #[v] w (fk cellE (fun b=>b<w.heap.size) 147 w L):=by
 obtain ⟨ao,cap,rfl⟩:=hv.len
 cases ao with
 | none =>
  obtain ⟨rfl,_,rfl⟩:=hv.nilL;clear hv;have q:=fun w=>run_eql_slice_nil (P:=Tryz.prog) w 102 147 none 0 0 Tryz.underlying102
  go_enter Tryz.func193,Tryz.ntmps193
  go_wp2;go_ret;exact ⟨_,rfl,OwnE.nil _ _ _ _ _,Below.refl _ _⟩
 | some a =>
  have hb:=zI w (.cells #[] 147);have HE:=ab (OwnE.fresh0 (E:=cellE) (Z:=fun b=>b<w.heap.size) w 147 (Nat.le_refl w.heap.size));have AF:=HE.out.lt;have HU:=ab (show HeldE cellE (fun b=>b<w.heap.size/\_≠some b) _ _ L from (hv.below hb).zone (fun b _ hz=>⟨hz,fun e=>by have:=(AF b e).1;omega⟩));have HB:=ab hb;clear hv hb AF;have q:=fun w=>run_eql_slice_nil (P:=Tryz.prog) w 102 147 (some a) L.length cap Tryz.underlying102
  go_enter Tryz.func193,Tryz.ntmps193
  go_wp2_with (at_builtin;refine aw (E:=cellE) (Z:=fun b=>b<w.heap.size) rfl (.tmp 5) (.tmp 6) 102 rfl (.agg #[.int .i64 0,.slice none 0 0]) 32 Tryz.underlying102 cD rfl (by decide) rfl rfl HE.out HU.out (by simp;omega) (by simp;omega) HB.out.size ?_)
  intro v2 w2 Ap hb2 _ _;have H2:=ab Ap;have B2:=ab (HB.out.trans hb2);clear Ap hb2;go_wp2;go_ret;exact ⟨_,rfl,by simpa using H2.out,B2.out⟩
theorem vQ{α:Type}(l:List α)(d:α)(k:Nat)(h:k<l.length):l.set k (l.getD k d)=l:=by
 apply List.ext_getElem?
 intro i
 by_cases e:i=k
 ·subst e;rw [List.getElem?_set_self h]
  simp [List.getD,List.getElem?_eq_getElem h]
 ·rw [List.getElem?_set_ne (Ne.symm e)]
theorem pL(Z:an)(v:Value)(L:List Cl)(w:World)(hv:HeldE cellE Z w v L)(hl:L.length<=1000000)(ht:∀ k,k<L.length->(L.getD k zc).2.length<=1000000000) :
  Calls Tryz.prog 135 #[v] w (fk cellE (fun b=>w.heap.size<=b) 147 w L):=by
 have HC:=ab (pK v L w hv.lower hl);have HT:=ab ht;obtain ⟨ao,cap,rfl⟩:=hv.len;clear hv ht
 by_cases h0:L.length=0
 ·obtain rfl:L=[]:=List.eq_nil_of_length_eq_zero h0;clear h0 hl
  go_enter Tryz.func135,Tryz.ntmps135
  go_wp2_with fail
  refine HC.out.mono ?_;rintro e w1 ⟨v1,rfl,AA,b1⟩;obtain ⟨a1,c1,rfl⟩:=((AA.zone (Y:=fun _=>True) (fun _ _ _=>trivial)).held (fun _ _ _=>trivial)).len;have HO:=ab (OwnI.all (Z:=fun b=>w.heap.size<=b) AA.each (fun i b hi=>absurd hi (Nat.not_lt_zero _)));have HB:=ab b1;clear AA b1;simp only [List.length_nil];go_wp2
  go_loopw [9] (fun i wr=>i=.int .i64 0/\wr=w1) (fun i _=>0)
  case atStart=>exact ⟨rfl,(by first | rfl | trivial)⟩
  case round =>
   obtain ⟨rfl,Ou⟩:=hrel;subst Ou;go_wp2;go_ret;exact ⟨_,rfl,HO.out,HB.out⟩
 ·have Ct:0<L.length:=by omega
  clear h0
  go_enter Tryz.func135,Tryz.ntmps135
  go_wp2_with fail
  refine HC.out.mono ?_;rintro e w1 ⟨v1,rfl,AA,b1⟩;obtain ⟨g,c1,rfl,hg1,hg2⟩:=AA.some Ct;have A4:=ab AA;have Ag:=ab b1;clear AA b1 HC;go_wp2
  go_loopw [9] (fun i wr=>∃ k:Nat,k<=L.length/\i=.int .i64 k/\OwnI cellE (fun j=>if j<k then (fun b=>w.heap.size<=b) else (fun b=>b<w.heap.size)) wr w.heap.size 147 (.slice (some ⟨g,0,none⟩) L.length c1) L/\Below w.heap.size w wr) (fun i _=>L.length - (intOf i).toNat)
  case atStart=>exact ⟨0,Nat.zero_le _,rfl,A4.out.each.keep (.refl _ _) (fun i b _ _ h=>h),Ag.out⟩
  case round =>
   obtain ⟨k,hk,rfl,hown,zN⟩:=hrel;have z5:=ab zN;clear zN
   by_cases hlt:k<L.length
   ·have DI:=HT.out k hlt;have hs:=vQ L zc k hlt;obtain ⟨C,hC,hr⟩:=hown.at hlt;obtain ⟨tv,rfl,hh⟩:=cell_rep.1 hr;have hh:HeldE (aE .i32) _ wr tv (L.getD k zc).2:=hh;have q0:wr.cell? ⟨g,k * 2,none⟩=some (.int .i64 (L.getD k zc).1):=(hC 0 (by decide)).1;have q1:wr.cell? ⟨g,k * 2+1,none⟩=some tv:=(hC 1 (by decide)).1;have hglt:g<wr.heap.size:=(hown.lt g rfl).2;obtain ⟨⟨K,T⟩,Es⟩ : ∃ y,y=L.getD k zc:=⟨_,rfl⟩;rw [<-Es] at q0 hh hs DI;simp only at q0 hh DI;have HH:=ab hh.ints;have HS:=ab hs;have HOW:=ab hown;clear hown hC hr Es hh hs;obtain ⟨tz9,tc,rfl,_⟩:=HH.out.view;have hb1:=zI wr (.cells #[.int .i64 K,.slice tz9 T.length tc] 147);have Gj:=ab (lK K _ T _ (HH.out.below hb1) DI);have Ck:=ab hb1;clear hb1
    go_wp2_with fail
    refine Gj.out.mono ?_;rintro e w3 ⟨v3,rfl,Cv,b3⟩;have hb4:Below wr.heap.size wr w3:=Ck.out.trans (b3.mono Ck.out.size);have Gn:=ab (HOW.out.below hb4);have BD:=ab (z5.out.trans (hb4.mono z5.out.size));have I9:=ab (show cellE.rep (fun b=>w.heap.size<=b/\b≠g) w3 [.int .i64 K,v3] (K,T) from cell_rep.2 ⟨_,rfl,Cv.zone (fun b _ h=>by have:=z5.out.size;simp only [World.size_alloc] at h;exact ⟨by omega,by omega⟩)⟩);obtain ⟨a3,c3,rfl⟩:=Cv.len;clear Cv b3 hb4 q0 q1
    go_wp2_with (refine eN (E:=cellE) (Y:=fun b=>w.heap.size<=b) (i:=k) rfl 147 (.tmp 18) (.tmp 17) rfl rfl rfl [.int .i64 K,.slice a3 T.length c3] rfl (by kernel_rfl) Gn.out hlt (K,T) I9.out ?_)
    intro w4 K3 DE;rw [HS.out] at K3;have Mj:=ab (K3.keep (Yi:=fun j=>if j<k+1 then (fun b=>w.heap.size<=b) else (fun b=>b<w.heap.size)) (.refl _ _) (fun i b _ _ h=>by
     by_cases e:i=k
     ·subst e;simp at h;simpa using h
     ·simp only [if_neg e] at h
      by_cases e2:i<k
      ·simp only [if_pos e2] at h;simp only [if_pos (show i<k+1 by omega)];exact h
      ·simp only [if_neg e2] at h;simp only [if_neg (show ¬ i<k+1 by omega)];exact h))
    have E0:=ab (BD.out.upd DE BD.out.size (fun x e=>by omega));clear K3 DE;go_wp2
    go_roundw
    case rel=>exact ⟨k+1,by omega,by go_num,Mj.out,E0.out⟩
    case measure=>simp [intOf] <;> omega
   ·obtain rfl:k=L.length:=by omega
    have HO:=ab (OwnI.all (Z:=fun b=>w.heap.size<=b) hown (fun i b hi _ h=>by simpa [hi] using h));clear hown;go_wp2;go_ret;exact ⟨_,rfl,HO.out,z5.out⟩
section
def RowAt(Z:an)(w:World)(B g gc:Nat)(L:List Cl)(wrap:Bool):Prop :=
 ∃ cap,Has w g [.slice (some ⟨gc,0,none⟩) L.length cap,.bool wrap] 187/\B<=g/\gc≠g/\OwnE cellE (fun b=>Z b/\b≠g) w B 147 (.slice (some ⟨gc,0,none⟩) L.length cap) L/\0<L.length/\L.length<=1024/\bz L=true
section
variable {Z Y S : an} {w w' : World} {B g gc : Nat} {L : List Cl} {wrap : Bool}
theorem RowAt.lt(h:RowAt Z w B g gc L wrap):g<w.heap.size/\gc<w.heap.size/\B<=gc/\B<=g:=by
 obtain ⟨cap,h1,h2,h3,h4,h5,_⟩:=h;exact ⟨h1.lt,(h4.lt gc rfl).2,(h4.lt gc rfl).1,h2⟩
theorem RowAt.keep(h:RowAt Z w B g gc L wrap)(hk:KeepZ (fun b=>Z b\/b=g\/b=gc) w w')(hy:∀ b,b<w.heap.size->Z b->Y b):RowAt Y w' B g gc L wrap:=by
 obtain ⟨cap,h1,h2,h3,h4,h5⟩:=h;refine ⟨cap,hk.has h1 (.inr (.inl rfl)),h2,h3,h4.keep (hk.mono fun b _ hz=>?_) (fun b hb hz=>⟨hy b hb hz.1,hz.2⟩),h5⟩
 rcases hz with hz | hz
 ·exact .inl hz.1
 ·exact .inr (.inr (by simpa [Value.ownBlock] using hz.symm))
theorem RowAt.below(h:RowAt Z w B g gc L wrap)(hb:Below w.heap.size w w'):RowAt Z w' B g gc L wrap:=h.keep (.all hb _) fun _ _ h=>h
theorem RowAt.upd(h:RowAt Z w B g gc L wrap)(hu:Upd S w w')(hz:∀ b,Z b->¬ S b)(hg:¬ S g)(hgc:¬ S gc):RowAt Z w' B g gc L wrap :=
 h.keep (hu.keep.mono fun b _ hb=>by rcases hb with hb | rfl | rfl;exact hz b hb;exact hg;exact hgc) fun _ _ h=>h
theorem RowAt.base(h:RowAt Z w B g gc L wrap){B':Nat}(hb:B'<=B):RowAt Z w B' g gc L wrap:=by
 obtain ⟨cap,h1,h2,h3,h4,h5⟩:=h;exact ⟨cap,h1,by omega,h3,h4.base hb,h5⟩
theorem RowAt.len(h:RowAt Z w B g gc L wrap):0<L.length/\L.length<=1024/\bz L=true:=by
 obtain ⟨cap,_,_,_,_,h5⟩:=h;exact h5
theorem RowAt.held(h:RowAt Z w B g gc L wrap):∃ cap,Has w g [.slice (some ⟨gc,0,none⟩) L.length cap,.bool wrap] 187/\HeldE cellE (fun b=>True) w (.slice (some ⟨gc,0,none⟩) L.length cap) L:=by
 obtain ⟨cap,h1,h2,h3,h4,h5⟩:=h;exact ⟨cap,h1,(h4.zone (Y:=fun _=>True) (fun _ _ _=>trivial)).held fun _ _ _=>trivial⟩
end
theorem pG{L:List Cl}(h:bz L=true):∀ k,k<L.length->cd (L.getD k zc)=true:=by
 intro k hk;rw [mF] at h;have:=nZ hk h;unfold nY at this;simp only [Bool.and_eq_true] at this;exact this.1.1
theorem pH{c:Cl}(h:cd c=true):c.2.length<=16:=by
 obtain ⟨k,t⟩:=c;unfold cd at h
 split at h
 ·simp at h;simp [h]
 ·simp only [Bool.and_eq_true,decide_eq_true_eq] at h;exact h.1.2
theorem gS{L:List Cl}(h:bz L=true):∀ k,k<L.length->(L.getD k zc).2.length<=1000000000:=fun k hk=>by have:=pH (pG h k hk);omega
def yc(Z:an)(w:World)(L:List Cl)(wrap:Bool)(e:Ending)(w':World):Prop:=∃ g gc,e=.returned (.pointer (some ⟨g,0,none⟩))/\RowAt Z w' w.heap.size g gc L wrap/\Below w.heap.size w w'
theorem yd{Z:an}{w:World}{B:Nat}{v:Value}{L:List Cl}{wrap:Bool}(h:OwnE cellE Z w B 147 v L)(hB:B<=w.heap.size)(h0:0<L.length)(h1:L.length<=1024)(hs:bz L=true):∃ gc,RowAt Z (w.alloc (.cells #[v,.bool wrap] 187)) B w.heap.size gc L wrap:=by
 obtain ⟨gc,cap,rfl,hg1,hg2⟩:=h.some h0;refine ⟨gc,cap,Has.new w _ _,hB,by omega,(h.keep (Y:=fun b=>Z b/\b≠w.heap.size) (.all (zI _ _) _) (fun b hb hz=>⟨hz,by omega⟩)),h0,h1,hs⟩
theorem pI(m:Nat):bz (List.replicate m zc)=true:=by
 unfold bz
 induction m with
 | zero=>rfl
 | succ m ih=>rw [List.replicate_succ];show (true && true && dF false _)=true;rw [ih];rfl
def da(n:Int):Nat:=(min (max n 1) 1024).toNat
theorem qZ(n:Int):j6 (max n 1)=da n/\0<da n/\da n<=1024/\max 1 (min n 1024)=(da n:Int):=by unfold j6 da;omega
theorem pJ(Z:an)(n:Int)(w:World):Calls Tryz.prog 155 #[.int .i64 n] w (yc Z w (List.replicate (da n) zc) false):=by
 have HB:=ab (iO Z (max n 1) w);obtain ⟨h1,h2,h3,_⟩:=qZ n;rw [h1] at HB;clear h1
 go_enter Tryz.func155,Tryz.ntmps155
 go_wp2_with fail
 refine HB.out.mono ?_;rintro e w1 ⟨v1,rfl,AA,b1⟩;obtain ⟨gc0,cap0,rfl,_,_⟩:=AA.some (by simp;omega);obtain ⟨gc,hr⟩:=yd (wrap:=false) AA b1.size (by simp;omega) (by simp;omega) (pI _);rw [List.length_replicate] at hr ⊢;have HR:=ab hr;have Ag:=ab b1;clear AA b1 hr;go_wp2;go_ret;exact ⟨_,gc,rfl,HR.out,Ag.out.alloc Ag.out.size _⟩
theorem mS(Z:an)(B g gc:Nat)(L:List Cl)(wrap:Bool)(w:World)(h:RowAt Z w B g gc L wrap):Calls Tryz.prog 70 #[.pointer (some ⟨g,0,none⟩)] w fun e w'=>e=.returned (.int .i64 L.length)/\w=w':=by
 obtain ⟨cap,h1,_⟩:=h.held;have c0:=h1.cell 0 _ rfl;clear h h1
 go_enter Tryz.func70,Tryz.ntmps70
 go_wp2;go_ret;exact ⟨rfl,rfl⟩
theorem tz(Z:an)(B g gc:Nat)(L:List Cl)(wrap:Bool)(w:World)(h:RowAt Z w B g gc L wrap):Calls Tryz.prog 63 #[.pointer (some ⟨g,0,none⟩)] w fun e w'=>e=.returned (.bool wrap)/\w=w':=by
 obtain ⟨cap,h1,_⟩:=h.held;have c1:=h1.cell 1 _ rfl;clear h h1
 go_enter Tryz.func63,Tryz.ntmps63
 go_wp2;go_ret;exact ⟨rfl,rfl⟩
theorem ra(Z:an)(B g gc:Nat)(L:List Cl)(wrap:Bool)(w:World)(h:RowAt Z w B g gc L wrap):Calls Tryz.prog 96 #[.pointer (some ⟨g,0,none⟩)] w (fk cellE (fun b=>w.heap.size<=b) 147 w L):=by
 obtain ⟨_,hl,hs⟩:=h.len;obtain ⟨cap,h1,h2⟩:=h.held;have HC:=ab (pL _ _ L w h2 (by omega) (gS hs));have c0:=h1.cell 0 _ rfl;clear h h1 h2 hs
 go_enter Tryz.func96,Tryz.ntmps96
 go_wp2_with fail
 refine HC.out.mono ?_;rintro e w1 ⟨v1,rfl,AA,b1⟩;go_wp2;go_ret;exact ⟨_,rfl,AA,b1⟩
theorem tA(b:Bool)(w:World):Calls Tryz.prog 71 #[.pointer none,.bool b] w fun e w'=>e=.returned (.tuple #[])/\w=w':=by
 go_enter Tryz.func71,Tryz.ntmps71
 go_wp2;exact bodyPost_end (by kernel_rfl) rfl ⟨rfl,rfl⟩
def mT(Z:an)(w:World)(B g gc:Nat)(L:List Cl)(wrap:Bool)(e:Ending)(w':World):Prop:=e=.returned (.tuple #[])/\RowAt Z w' B g gc L wrap/\Upd (fun b=>b=g\/b=gc) w w'
theorem tB(Z:an)(B g gc:Nat)(L:List Cl)(wrap b:Bool)(w:World)(h:RowAt Z w B g gc L wrap):Calls Tryz.prog 71 #[.pointer (some ⟨g,0,none⟩),.bool b] w (mT Z w B g gc L b):=by
 obtain ⟨cap,h1,h2,h3,h4,h5⟩:=h;have hu:=(Upd.refl (fun b=>b=g) w).setCell (p:=⟨g,1,none⟩) (.inl rfl) (.bool b);have hp:mT Z w B g gc L b (.returned (.tuple #[])) (w.setCell ⟨g,1,none⟩ (.bool b)):=by
  refine ⟨rfl,⟨cap,?_,h2,h3,h4.upd hu (fun b hb=>?_),h5⟩,hu.mono fun b _ h=>.inl h⟩
  ·have:=h1.set 1 (.bool b)
   simpa using this
  ·rcases hb with hb | hb
   ·exact hb.2
   ·have:gc=b:=by simpa [Value.ownBlock] using hb
    subst this;exact h3
 have HP:=ab hp;have c1:=h1.cell 1 _ rfl;have f1:=h1.free 1;clear h1 h2 h3 h4 h5 hu hp
 go_enter Tryz.func71,Tryz.ntmps71
 go_wp2;exact bodyPost_end (by kernel_rfl) rfl HP.out
def ye(w:World)(c:Cl)(e:Ending)(w':World):Prop:=∃ tv,e=.returned (.tuple #[.agg #[.int .i64 c.1,tv],.bool true])/\HeldE (aE .i32) (fun b=>w.heap.size<=b) w' tv c.2/\Below w.heap.size w w'
def yf(w:World)(c:Cl)(e:Ending)(w':World):Prop:=∃ tv,e=.returned (.tuple #[.agg #[.int .i64 c.1,tv],.bool true])/\OwnE (aE .i32) (fun _=>True) w' w.heap.size 21 tv c.2/\Below w.heap.size w w'
theorem tC(Z:an)(B g gc:Nat)(L:List Cl)(wrap:Bool)(i:Nat)(w:World)(h:RowAt Z w B g gc L wrap)(hi:i<L.length):Calls Tryz.prog 85 #[.pointer (some ⟨g,0,none⟩),.int .i64 i] w (yf w (L.getD i zc)):=by
 obtain ⟨w1,Ce⟩:=ae (w.alloc (.cells #[.int .i64 0,.slice none 0 0] 147));have hb:Below w.heap.size w w1:=by rw [Ce];exact zI w _
 have hr1:Has w1 w.heap.size [.int .i64 0,.slice none 0 0] 147:=by rw [Ce];exact Has.new w _ _
 have h1:=h.below hb;obtain ⟨_,hl,hs⟩:=h.len;have DI:=gS hs i hi;obtain ⟨cap,h2,h3⟩:=h1.held;obtain ⟨_,_,hc⟩:=fl h3;obtain ⟨b,off,tv,e,hbl,_,c0,c1,ht⟩:=hc i hi
 cases e
 simp only [Nat.zero_add] at c0 c1;have k0:=h2.cell 0 _ rfl;obtain ⟨⟨K,T⟩,Es⟩ : ∃ y,y=L.getD i zc:=⟨_,rfl⟩;rw [<-Es] at c0 ht DI ⊢;simp only at c0 ht DI;have Gj:=ab (lJ K tv T w1 ht.ints DI);have HW:=ab (mS Z B g gc L wrap w1 h1);have HB:=ab hb;have HR:=ab hr1;have hs1:w1.heap.size=w.heap.size+1:=by rw [Ce];simp
 have IP:=ab hs1;have HT:=ab ht;obtain ⟨tz9,tc,rfl⟩:=ht.len;subst Ce;have hlt:=hi;clear h h1 h2 h3 hc hs Es hb hr1 hs1 ht
 go_enter Tryz.func85,Tryz.ntmps85
 go_wp2_with fail
 refine HW.out.mono ?_;rintro e w2 ⟨rfl,rfl⟩
 go_wp2_with fail
 refine Gj.out.mono ?_;rintro e w3 ⟨v3,rfl,Cv,b3⟩;have r3:=HR.out.below b3 HR.out.lt;have hs3:w.heap.size+1<=w3.heap.size:=by rw [<-IP.out];exact b3.size
 have d0:=r3.cell 0 _ rfl;have d1:=r3.cell 1 _ rfl;have e0:=r3.free 0;have e1:=r3.free 1;have HO:=ab (Cv.anyInts (Y:=fun _=>False));have BD:=ab (HB.out.trans (b3.mono HB.out.size));have Fq:=ab hs3;obtain ⟨a3,c3,e5⟩:=Cv.heldInts.len;clear Cv b3 r3 hs3 c0 c1 k0;subst e5;go_wp2;refine bodyPost_ret (v:=.tuple #[.agg #[.int .i64 K,.slice a3 T.length c3],.bool true]) (by simp [results,Tryz.results85,go_sem,d0,d1,e0,e1]) rfl ⟨_,rfl,?_,?_⟩
 ·exact OwnE.anyInts (OwnE.base (OwnE.upd HO.out ((((Upd.refl (fun b=>b<w.heap.size+1) w3).setCell (.inl (by simp)) _).setCell (.inl (by simp)) _)) (fun b h k=>by
   rcases h with h | h
   ·exact h
   ·have:=(HO.out.lt b h).1;rw [IP.out] at this;omega)) (by rw [IP.out];omega))
 ·exact ((BD.out.setCell (by simp) _).setCell (by simp) _)
theorem vP(Z:an)(B g gc:Nat)(L:List Cl)(wrap:Bool)(i:Nat)(w:World)(h:RowAt Z w B g gc L wrap)(hi:i<L.length):Calls Tryz.prog 85 #[.pointer (some ⟨g,0,none⟩),.int .i64 i] w (ye w (L.getD i zc)) :=
 (tC Z B g gc L wrap i w h hi).mono fun _ _ ⟨v,e,h,b⟩=>⟨v,e,h.heldInts,b⟩
end
def zr(w:World)(n:Nat)(p:Nat->Bool)(e:Ending)(w':World):Prop :=
 ∃ k:Nat,k<=n/\e=.returned (.int .i64 k)/\(∀ j,j<k->p j=false)/\(∀ j,k<=j->j<n->p j=true)/\Below w.heap.size w w'
theorem qw(g:FuncId)(cb:Array Value)(n:Nat)(p:Nat->Bool)(w:World)(eg:∀ args w,(callFunc g args).run Tryz.prog w=.ok (.enter g args) w)(hn:n<=1000000000)
  (hf:∀ w',Below w.heap.size w w'->∀ i,i<n->Calls Tryz.prog g (#[.int .i64 i]++cb) w' fun e w''=>e=.returned (.bool (p i))/\Below w'.heap.size w' w'')
  (hm:∀ a b,a<=b->b<n->p a=true->p b=true) :
  Calls Tryz.prog 281 #[.int .i64 n,.func (.func g) #[] cb] w (zr w n p):=by
 have HF:=ab hf;have M:=ab hm;clear hf hm
 go_enter Tryz.func281,Tryz.ntmps281
 go_wp2
 go_loopg [5,6] n (fun kx s5 s6 wr=>∃ (lo hi:Nat),s5=.int .i64 lo/\s6=.int .i64 hi/\lo<=hi/\hi<=n/\hi - lo<=kx/\Below w.heap.size w wr /\
  Go.Aside ((∀ t,t<lo->p t=false)/\(∀ t,hi<=t->t<n->p t=true)))
 case atStart=>exact ⟨0,n,rfl,rfl,Nat.zero_le _,Nat.le_refl _,by omega,Below.refl _ _,(⟨fun t ht=>absurd ht (Nat.not_lt_zero _),fun t h1 h2=>by omega⟩ : (∀ t,t<0->p t=false)/\(∀ t,n<=t->t<n->p t=true))⟩
 case round =>
  obtain ⟨lo,hi,rfl,rfl,LS,Bc,hg,zN,I⟩:=hrel
  by_cases hlt:lo<hi
  ·have hc:=HF.out _ zN ((lo+hi) / 2) (by omega);rw [show (((lo+hi) / 2:Nat):Int)=((lo:Int)+(hi:Int)) / 2 by omega] at hc
   cases hp:p ((lo+hi) / 2) <;> rw [hp] at hc
   ·have HP:=ab hp;clear hp
    go_wp2_with (go_at_fn g;refine hc.mono ?_;rintro e w' ⟨rfl,Nq⟩)
    go_roundg (hi - ((lo+hi) / 2+1))
    case measure=>omega
    case rel =>
     have I2:Go.Aside ((∀ t,t<(lo+hi) / 2+1->p t=false)/\(∀ t,hi<=t->t<n->p t=true)):=⟨fun t ht=>(by
      cases h:p t with
      | false=>rfl
      | true=>have:=M.out t ((lo+hi) / 2) (by omega) (by omega) h;rw [HP.out] at this;cases this),I.out.2⟩
     exact ⟨(lo+hi) / 2+1,hi,by rw [show ((lo:Int)+(hi:Int)) / 2+1=(((lo+hi) / 2+1:Nat):Int) by omega],rfl,by omega,Bc,Nat.le_refl _,zN.trans (Nq.mono zN.size),I2⟩
   ·have HP:=ab hp;clear hp
    go_wp2_with (go_at_fn g;refine hc.mono ?_;rintro e w' ⟨rfl,Nq⟩)
    go_roundg ((lo+hi) / 2 - lo)
    case measure=>omega
    case rel =>
     have I2:Go.Aside ((∀ t,t<lo->p t=false)/\(∀ t,(lo+hi) / 2<=t->t<n->p t=true)):=⟨I.out.1,fun t ht EM=>M.out ((lo+hi) / 2) t ht EM HP.out⟩;exact ⟨lo,(lo+hi) / 2,rfl,by rw [show ((lo:Int)+(hi:Int)) / 2=(((lo+hi) / 2:Nat):Int) by omega],by omega,by omega,Nat.le_refl _,zN.trans (Nq.mono zN.size),I2⟩
  ·obtain rfl:hi=lo:=by omega
   have HI:=ab I.out;clear I;go_wp2;go_ret;exact ⟨hi,Bc,rfl,HI.out.1,HI.out.2,zN⟩
section
open Go.Joins Go.Deep
structure Pr where
 br:Int
 pc:Bool
 cv:Int
 ea:Int
def HeldP(w:World)(v:Value)(xs:List Pr):Prop :=
 ∃ ao cap,v=.slice ao xs.length cap/\∀ i (h:i<xs.length),∃ b off,ao=some ⟨b,off,none⟩/\b<w.heap.size/\w.cell? ⟨b,off+i * 4,none⟩=some (.int .i64 xs[i].br)/\w.cell? ⟨b,off+i * 4+1,none⟩=some (.bool xs[i].pc) /\
  w.cell? ⟨b,off+i * 4+2,none⟩=some (.int .i64 xs[i].cv)/\w.cell? ⟨b,off+i * 4+3,none⟩=some (.int .i64 xs[i].ea)
theorem HeldP.below{w w':World}{v:Value}{xs:List Pr}(h:HeldP w v xs)(hb:Below w.heap.size w w'):HeldP w' v xs:=by
 obtain ⟨ao,cap,rfl,hc⟩:=h;refine ⟨ao,cap,rfl,fun i hi=>?_⟩;obtain ⟨b,off,rfl,hlt,h1,h2,h3,h4⟩:=hc i hi;exact ⟨b,off,rfl,by have:=hb.size;omega,(hb.cell (p:=⟨b,_,none⟩) hlt).trans h1,(hb.cell (p:=⟨b,_,none⟩) hlt).trans h2,(hb.cell (p:=⟨b,_,none⟩) hlt).trans h3,(hb.cell (p:=⟨b,_,none⟩) hlt).trans h4⟩
theorem HeldP.view{w:World}{v:Value}{xs:List Pr}(h:HeldP w v xs):∃ ao cap,v=.slice ao xs.length cap/\∀ i (h:i<xs.length),∃ b off,ao=some ⟨b,off,none⟩/\b<w.heap.size/\w.cell? ⟨b,off+i * 4,none⟩=some (.int .i64 xs[i].br)/\w.cell? ⟨b,off+i * 4+1,none⟩=some (.bool xs[i].pc) /\
 w.cell? ⟨b,off+i * 4+2,none⟩=some (.int .i64 xs[i].cv)/\w.cell? ⟨b,off+i * 4+3,none⟩=some (.int .i64 xs[i].ea):=h
def Pr.none:Pr:=⟨0,false,0,0⟩
theorem HeldP.at{w:World}{ao:Option Addr}{n cap:Nat}{xs:List Pr}(h:HeldP w (.slice ao n cap) xs):n=xs.length/\∀ i,i<xs.length->∃ b off,ao=some ⟨b,off,none⟩/\b<w.heap.size/\w.cell? ⟨b,off+i * 4,none⟩=some (.int .i64 (xs.getD i Pr.none).br)/\w.cell? ⟨b,off+i * 4+1,none⟩=some (.bool (xs.getD i Pr.none).pc) /\
  w.cell? ⟨b,off+i * 4+2,none⟩=some (.int .i64 (xs.getD i Pr.none).cv)/\w.cell? ⟨b,off+i * 4+3,none⟩=some (.int .i64 (xs.getD i Pr.none).ea):=by
 obtain ⟨ao',cap',e,hc⟩:=h
 cases e
 refine ⟨rfl,fun i hi=>?_⟩;have:=hc i hi;rw [show xs[i]=xs.getD i Pr.none by simp [List.getD,List.getElem?_eq_getElem hi]] at this;exact this
end
theorem fe{P:Program}(w0:World){ops:Array Oper}{rest:List Oper}{o:Oper}{a:Act}{Q:Exit->Act->World->Prop}(hgd:o.guard=none)(s x:Operand)(t:TypeId)
  (ho:o.op=.call { callee:=.builtin .append,args:=#[s,x],argTypes:=#[t,t] })
  (base:Nat) (e:TypeId) (z:Value) (size bytes:Nat) (ht:P.underlying t=some (.slice e)) (BN:(P.info? e).map (fun i=>(i.zero,i.size,i.bytes))=some (some z,size,bytes)) (hzs:z.cells.size=size) (hsz:0<size)
  (v:Value) (n:Nat) (xs:List Value) (hs:a.eval s=v) (hown:w0.ownsRow base e size v n xs)
  (C:List Value) (m c:Nat) (hx:a.eval x=.slice (some ⟨w0.heap.size,0,none⟩) m c) (hl:C.length=m * size) (h1:∀ u ∈ C,u.oneCell'=true)
  (hbytes:(n+m) * bytes<=140737488355328) (hb0:n+m<=140737488355328) (hbase:base<=w0.heap.size)
  (h:∀ v' w',w'.ownsRow base e size v' (n+m) (xs++C)->Below base w0 w'->wpList P ops Q rest (a.put o.dst v') w') :
  wpList P ops Q (o :: rest) a (w0.alloc (.cells C.toArray e)):=by
 obtain ⟨i0,hi,hz0,hz1,hz2⟩:=info_parts BN;refine wpList_append_own _ hgd s x t ho base e i0 z size bytes ht hi hz0 hz1 hz2 hzs hsz v n xs hs (hown.alloc _) ⟨w0.heap.size,0,none⟩ m c C hx (by omega) (hO w0 C e) h1 (by unfold maxLen;omega) hbytes (by simp;omega) ?_;intro v' w' hown' hgrow _;refine h v' w' hown' (((Below.refl base w0).alloc hbase _).grown hgrow (by simp;omega) fun k hk=>((hown.alloc (.cells C.toArray e)).lt k hk).1)
def kN(q:Pr):List Value:=[.int .i64 q.br,.bool q.pc,.int .i64 q.cv,.int .i64 q.ea]
def bV(l:List Pr):List Value:=l.flatMap kN
theorem ko:∀ (l:List Pr) (i:Nat) (h:i<l.length),(bV l)[i * 4]? = some (.int .i64 l[i].br)/\(bV l)[i * 4+1]? = some (.bool l[i].pc)/\(bV l)[i * 4+2]? = some (.int .i64 l[i].cv)/\(bV l)[i * 4+3]? = some (.int .i64 l[i].ea)
 | [],i,h=>absurd h (Nat.not_lt_zero _)
 | q :: l,0,_=>⟨rfl,rfl,rfl,rfl⟩
 | q :: l,i+1,h=>by
  have:=ko l i (by simpa using h);rw [show (i+1) * 4=i * 4+4 by omega,show i * 4+4+1=i * 4+1+4 by omega,show i * 4+4+2=i * 4+2+4 by omega,show i * 4+4+3=i * 4+3+4 by omega]
  simpa [bV,kN] using this
theorem nU(l:List Pr):(bV l).length=4 * l.length:=by
 induction l with
 | nil=>rfl
 | cons q l ih=>simp only [bV,List.flatMap_cons,List.length_append,kN,List.length_cons,List.length_nil] at *;omega
theorem ix{w:World}{B e:Nat}{v:Value}{n:Nat}{l:List Pr}(h:w.ownsRow B e 4 v n (bV l)):HeldP w v l:=by
 have hl:l.length=n:=by have:=h.1;rw [nU] at this;omega
 subst hl
 rcases h.2 with ⟨rfl,hn⟩ | ⟨g,cap,cur,rfl,hb,hg,h1,h2,h3,h4⟩
 ·have:l=[]:=List.eq_nil_of_length_eq_zero hn;subst this;exact ⟨none,0,rfl,fun i hi=>by simp at hi⟩
 ·refine ⟨some ⟨g,0,none⟩,cap,rfl,fun i hi=>⟨g,0,rfl,(Array.getElem?_eq_some_iff.1 hg).1,?_⟩⟩;obtain ⟨k0,k1,k2,k3⟩:=ko l i hi;have c0:=h.cells (g:=g) rfl _ _ k0;have c1:=h.cells (g:=g) rfl _ _ k1;have c2:=h.cells (g:=g) rfl _ _ k2;have c3:=h.cells (g:=g) rfl _ _ k3;rw [Addr.add_lit] at c0 c1 c2 c3;simp only [Nat.zero_add] at *;exact ⟨c0,c1,c2,c3⟩
theorem oV(l:List Pr)(k:Nat)(h:k<l.length):bV (l.take (k+1))=bV (l.take k)++kN (l.getD k Pr.none):=by
 unfold bV;rw [List.take_succ_eq_append_getElem h,List.flatMap_append,List.flatMap_cons,List.flatMap_nil,List.append_nil,show l.getD k Pr.none=l[k] by simp [List.getD,List.getElem?_eq_getElem h]]
def dg(n cj:Int):Int:=if cj=1 then 1 else if cj=2/\n≠0 then 2 else if cj=3 then n else 0
def eu(n br:Int)(pc:Bool):Int:=if pc=true then 1 else if n≠1 then 0 else if br=4 then 1 else if br=5 then 2 else 0
theorem uW(w:World)(br:Int)(pc:Bool)(cj ea:Int):∃ W,W=w.alloc (.cells #[Value.int .i64 br,.bool pc,.int .i64 cj,.int .i64 ea] 33)/\Has W w.heap.size [Value.int .i64 br,.bool pc,.int .i64 cj,.int .i64 ea] 33/\Below w.heap.size w W :=
 ⟨_,rfl,Has.new w _ _,zI _ _⟩
theorem qD(n cj:Int):((cj == 1)=true/\dg n cj=1)\/((cj == 1)=false/\(cj == 2)=true/\(n == 0)=false/\dg n cj=2)\/((cj == 1)=false/\(cj == 2)=true/\(n == 0)=true/\(cj == 3)=false/\dg n cj=0)
  \/ ((cj == 1)=false/\(cj == 2)=false/\(cj == 3)=true/\dg n cj=n)\/((cj == 1)=false/\(cj == 2)=false/\(cj == 3)=false/\dg n cj=0):=by
 unfold dg
 by_cases h1:cj=1
 ·simp [h1]
 by_cases h2:cj=2
 ·by_cases h3:n=0 <;> simp [h2,h3]
 by_cases h3:cj=3
 ·simp [h3]
 ·simp [h1,h2,h3]
theorem jg(n br:Int)(pc:Bool)(cj ea:Int)(w:World)(n0:0<=n)(n1:n<=255):Calls Tryz.prog 202 #[.int .u8 n,.agg #[.int .i64 br,.bool pc,.int .i64 cj,.int .i64 ea]] w (Gives w (.int .u8 (dg n cj))):=by
 rcases qD n cj with ⟨h1,hs⟩ | ⟨h1,h2,h3,hs⟩ | ⟨h1,h2,h3,h4,hs⟩ | ⟨h1,h2,h3,hs⟩ | ⟨h1,h2,h3,hs⟩
 all_goals
  rw [hs];clear hs
  go_enter Tryz.func202,Tryz.ntmps202
  go_wp2;go_ret;exact ⟨af,zI _ _⟩
theorem sF(n br:Int)(pc:Bool):(pc=true/\eu n br pc=1)\/(pc=false/\(n == 1)=false/\eu n br pc=0)\/(pc=false/\n=1/\(br == 4)=true/\eu n br pc=1)\/(pc=false/\n=1/\(br == 4)=false/\(br == 5)=true/\eu n br pc=2)\/(pc=false/\n=1/\(br == 4)=false/\(br == 5)=false/\eu n br pc=0):=by
 unfold eu
 cases pc with
 | true=>simp
 | false =>
  by_cases h1:n=1
  ·by_cases h2:br=4
   ·simp [h1,h2]
   ·by_cases h3:br=5 <;> simp [h1,h2,h3]
  ·simp [h1]
theorem kO(n br:Int)(pc:Bool)(cj ea:Int)(w:World)(n0:0<=n)(n1:n<=255):Calls Tryz.prog 203 #[.int .u8 n,.agg #[.int .i64 br,.bool pc,.int .i64 cj,.int .i64 ea]] w (Gives w (.int .u8 (eu n br pc))):=by
 rcases sF n br pc with ⟨rfl,hs⟩ | ⟨rfl,h2,hs⟩ | ⟨rfl,rfl,h3,hs⟩ | ⟨rfl,rfl,h3,h4,hs⟩ | ⟨rfl,rfl,h3,h4,hs⟩
 all_goals
  rw [hs];clear hs
  go_enter Tryz.func203,Tryz.ntmps203
  go_wp2;go_ret;exact ⟨af,zI _ _⟩
def zt(w:World)(g:Nat)(tl:Bool)(la cj pi:Int)(od:Bool):Prop:=Has w g [.bool tl,.int .i64 la,.int .u8 cj,.int .u8 pi,.bool od] 141
def cz(tl:Bool)(la cj pi:Int)(od:Bool)(br:Int)(pc:Bool)(cv:Int):Bool :=
 if tl=false then false else if cl la br=1 then true else if cv=1/\cj=2 then true else if pc=true/\pi=2 then true else (br == 6 && od)
theorem pa(tl:Bool)(la cj pi:Int)(od:Bool)(br:Int)(pc:Bool)(cv:Int) :
  (tl=false/\cz tl la cj pi od br pc cv=false)\/(tl=true/\(cl la br == 1)=true/\cz tl la cj pi od br pc cv=true)
  \/ (tl=true/\(cl la br == 1)=false/\(cv == 1)=true/\(cj == 2)=true/\cz tl la cj pi od br pc cv=true)
  \/ (tl=true/\(cl la br == 1)=false/\((cv == 1)=false\/(cv == 1)=true/\(cj == 2)=false)/\pc=true/\(pi == 2)=true/\cz tl la cj pi od br pc cv=true)
  \/ (tl=true/\(cl la br == 1)=false/\((cv == 1)=false\/(cv == 1)=true/\(cj == 2)=false)/\(pc=false\/pc=true/\(pi == 2)=false)/\((br == 6)=false/\cz tl la cj pi od br pc cv=false\/(br == 6)=true/\cz tl la cj pi od br pc cv=od)):=by
 unfold cz
 cases tl with
 | false=>simp
 | true =>
  by_cases h1:cl la br=1
  ·simp [h1]
  by_cases h2:cv=1/\cj=2
  ·simp [h1,h2]
  have Jn:((cv == 1)=false\/(cv == 1)=true/\(cj == 2)=false):=by
   by_cases h:cv=1
   ·exact .inr ⟨by simpa using h,by simp;intro e;exact h2 ⟨h,e⟩⟩
   ·exact .inl (by simpa using h)
  by_cases h3:pc=true/\pi=2
  ·refine .inr (.inr (.inr (.inl ⟨rfl,by simpa using h1,Jn,h3.1,by simpa using h3.2,?_⟩)));rw [if_neg (by simp),if_neg h1,if_neg h2,if_pos h3]
  have h3':(pc=false\/pc=true/\(pi == 2)=false):=by
   cases pc with
   | false=>exact .inl rfl
   | true=>exact .inr ⟨rfl,by simp;intro e;exact h3 ⟨rfl,e⟩⟩
  refine .inr (.inr (.inr (.inr ⟨rfl,by simpa using h1,Jn,h3',?_⟩)));rw [if_neg (by simp),if_neg h1,if_neg h2,if_neg h3]
  by_cases h4:br=6 <;> simp [h4]
def cSt(xs:List Pr):Nat->Int
 | 0=>0
 | k+1=>dg (cSt xs k) (xs.getD k Pr.none).cv
def pSt(xs:List Pr):Nat->Int
 | 0=>0
 | k+1=>eu (pSt xs k) (xs.getD k Pr.none).br (xs.getD k Pr.none).pc
def oSt(xs:List Pr):Nat->Bool
 | 0=>false
 | k+1=>(xs.getD k Pr.none).br == 6 && !oSt xs k
def lSt(xs:List Pr):Nat->Int
 | 0=>0
 | k+1=>(xs.getD k Pr.none).br
def dZ(xs:List Pr):Nat->Nat->Bool
 | 0,_=>false
 | k+1,n=>if (xs.getD k Pr.none).cv=1 then decide (0<n) else if (xs.getD k Pr.none).cv=2 then dZ xs k (n+1) else if (xs.getD k Pr.none).cv=3 then dZ xs k n else false
def ft(xs:List Pr):Nat->Bool
 | 0=>false
 | k+1=>if (xs.getD k Pr.none).pc=true then true else if (xs.getD k Pr.none).br=4 then ft xs k else false
def dT(xs:List Pr):Nat->Nat
 | 0=>0
 | k+1=>if (xs.getD k Pr.none).br=6 then dT xs k+1 else 0
theorem uQ(xs:List Pr)(k:Nat):cSt xs k=0\/cSt xs k=1\/cSt xs k=2:=by
 induction k with
 | zero=>exact .inl rfl
 | succ k ih=>unfold cSt dg;split <;> (try split) <;> (try split) <;> omega
theorem uR(xs:List Pr)(k:Nat):pSt xs k=0\/pSt xs k=1\/pSt xs k=2:=by
 cases k with
 | zero=>exact .inl rfl
 | succ k=>unfold pSt eu;split <;> (try split) <;> (try split) <;> (try split) <;> omega
theorem uS(xs:List Pr)(k:Nat):∀ n,dZ xs k n=(if n=0 then decide (cSt xs k=2) else decide (cSt xs k≠0)):=by
 induction k with
 | zero=>intro n;simp [dZ,cSt]
 | succ k ih =>
  intro n;have hb:=uQ xs k;unfold dZ cSt dg;simp only [ih];generalize (xs.getD k Pr.none).cv=c;generalize cSt xs k=s at *;have h0:n+1≠0:=by omega
  by_cases h1:c=1
  ·subst h1;by_cases hn:n=0 <;> simp [hn];omega
  by_cases h2:c=2
  ·subst h2;rcases hb with rfl | rfl | rfl <;> by_cases hn:n=0 <;> simp [hn]
  by_cases h3:c=3
  ·subst h3;simp
  ·simp [h1,h2,h3]
theorem uT(xs:List Pr)(k:Nat):ft xs k=decide (pSt xs k=1):=by
 induction k with
 | zero=>simp [ft,pSt]
 | succ k ih =>
  unfold ft pSt eu;simp only [ih];generalize (xs.getD k Pr.none).br=b;generalize (xs.getD k Pr.none).pc=c;generalize pSt xs k=s
  cases c with
  | true=>simp
  | false =>
   by_cases h4:b=4
   ·subst h4;by_cases h1:s=1 <;> simp [h1]
   ·by_cases h1:s=1
    ·by_cases h5:b=5 <;> simp [h1,h4,h5]
    ·simp [h1,h4]
theorem uU(xs:List Pr)(k:Nat):decide (dT xs k % 2=1)=oSt xs k:=by
 induction k with
 | zero=>simp [dT,oSt]
 | succ k ih =>
  unfold dT oSt;rw [<-ih];generalize (xs.getD k Pr.none).br=b;generalize dT xs k=m
  by_cases h:b=6
  ·subst h
   by_cases h2:m % 2=1
   ·have h3:¬ (m+1) % 2=1:=by omega
    simp [h2,h3]
   ·have h3:(m+1) % 2=1:=by omega
    simp [h2,h3]
  ·simp [h]
theorem uV(xs:List Pr)(k:Nat)(h:oSt xs k=true):lSt xs k=6/\0<k:=by
 cases k with
 | zero=>simp [oSt] at h
 | succ k=>simp [oSt] at h;exact ⟨h.1,by omega⟩
def ip(xs:List Pr)(i:Nat):Bool:=(xs.getD i Pr.none).pc && (decide (2<=i) && (decide ((xs.getD (i - 1) Pr.none).br=5) && (!(xs.getD (i - 1) Pr.none).pc && ft xs (i - 1))))
theorem xU(xs:List Pr)(i:Nat):ip xs i=((xs.getD i Pr.none).pc && decide (pSt xs i=2)):=by
 unfold ip
 congr 1
 cases i with
 | zero=>simp [pSt]
 | succ k =>
  rw [uT];simp only [Nat.add_sub_cancel];have hb:=uR xs k
  cases k with
  | zero=>simp only [pSt,eu];cases (xs.getD 0 Pr.none).pc <;> simp
  | succ m =>
   rw [decide_eq_true (by omega),Bool.true_and];show _=decide (eu (pSt xs (m+1)) (xs.getD (m+1) Pr.none).br (xs.getD (m+1) Pr.none).pc=2);unfold eu;generalize (xs.getD (m+1) Pr.none).br=b;generalize (xs.getD (m+1) Pr.none).pc=c;generalize pSt xs (m+1)=s
   cases c with
   | true=>simp
   | false =>
    by_cases h1:s=1
    ·by_cases h4:b=4
     ·simp [h1,h4]
     ·by_cases h5:b=5 <;> simp [h1,h4,h5]
    ·simp [h1]
def jf(xs:List Pr)(i:Nat):Bool:=(xs.getD i Pr.none).cv == 1 && dZ xs i 0
def jR(xs:List Pr)(i:Nat):Bool :=
 if i=0 then false else if cl (xs.getD (i - 1) Pr.none).br (xs.getD i Pr.none).br=1 then true else if jf xs i=true then true else if ip xs i=true then true
 else if cl (xs.getD (i - 1) Pr.none).br (xs.getD i Pr.none).br≠2 then false else if (xs.getD i Pr.none).br≠6 then false else decide (dT xs i % 2=1)
theorem lq(xs:List Pr)(i:Nat):jR xs i=cz (decide (0<i)) (lSt xs i) (cSt xs i) (pSt xs i) (oSt xs i) (xs.getD i Pr.none).br (xs.getD i Pr.none).pc (xs.getD i Pr.none).cv:=by
 cases i with
 | zero=>simp [jR,cz]
 | succ k =>
  have hl:(xs.getD (k+1 - 1) Pr.none).br=lSt xs (k+1):=rfl;have ho:=uV xs (k+1);unfold jR cz jf;rw [hl,uS,if_pos rfl,xU,uU];rw [if_neg (show ¬ k+1=0 by omega),if_neg (show ¬ decide (0<k+1)=false by simp)];generalize (xs.getD (k+1) Pr.none).br=b;generalize (xs.getD (k+1) Pr.none).pc=c;generalize (xs.getD (k+1) Pr.none).cv=v;generalize cSt xs (k+1)=s1;generalize pSt xs (k+1)=s2;generalize oSt xs (k+1)=od at *;generalize lSt xs (k+1)=la at *
  by_cases h1:cl la b=1
  ·simp [h1]
  ·rw [if_neg h1,if_neg h1]
   by_cases h2:v=1/\s1=2
   ·rw [if_pos h2,if_pos (by simp [h2.1,h2.2])]
   ·rw [if_neg h2,if_neg (by simpa using h2)]
    by_cases h3:c=true/\s2=2
    ·rw [if_pos h3,if_pos (by simp [h3.1,h3.2])]
    ·rw [if_neg h3,if_neg (by simpa using h3)]
     by_cases h6:b=6
     ·subst h6
      cases od with
      | true =>
       rw [(ho rfl).1]
       rfl
      | false=>simp
     ·simp [h6]
theorem oZ(xs:List Pr)(k n:Nat):((xs.getD k Pr.none).cv=1/\dZ xs (k+1) n=decide (0<n))\/(((xs.getD k Pr.none).cv == 1)=false/\(xs.getD k Pr.none).cv=2/\dZ xs (k+1) n=dZ xs k (n+1))
  \/ (((xs.getD k Pr.none).cv == 1)=false/\((xs.getD k Pr.none).cv == 2)=false/\(xs.getD k Pr.none).cv=3/\dZ xs (k+1) n=dZ xs k n)
  \/ (((xs.getD k Pr.none).cv == 1)=false/\((xs.getD k Pr.none).cv == 2)=false/\((xs.getD k Pr.none).cv == 3)=false/\dZ xs (k+1) n=false):=by
 have hstep:dZ xs (k+1) n=(if (xs.getD k Pr.none).cv=1 then decide (0<n) else if (xs.getD k Pr.none).cv=2 then dZ xs k (n+1) else if (xs.getD k Pr.none).cv=3 then dZ xs k n else false):=rfl;rw [hstep];generalize (xs.getD k Pr.none).cv=c
 by_cases h1:c=1
 ·exact .inl ⟨h1,by rw [if_pos h1]⟩
 ·have d1:(c == 1)=false:=by simpa using h1
  rw [if_neg h1]
  by_cases h2:c=2
  ·exact .inr (.inl ⟨d1,h2,by rw [if_pos h2]⟩)
  ·have d2:(c == 2)=false:=by simpa using h2
   rw [if_neg h2]
   by_cases h3:c=3
   ·exact .inr (.inr (.inl ⟨d1,d2,h3,by rw [if_pos h3]⟩))
   ·exact .inr (.inr (.inr ⟨d1,d2,by simpa using h3,by rw [if_neg h3]⟩))
theorem sE(v:Value)(xs:List Pr)(i:Nat)(w:World)(hh:HeldP w v xs)(hi:i<xs.length)(hl:xs.length<=1000000) :
  Calls Tryz.prog 254 #[v,.int .i64 i] w (Gives w (.bool (jf xs i))):=by
 obtain ⟨ao,cap,rfl,hc0⟩:=id hh;clear hc0;obtain ⟨_,hc⟩:=hh.at;have HC:=ab hc;clear hc hh;obtain ⟨b,off,rfl,hb,_,_,hx,_⟩:=HC.out i hi
 by_cases h1:(xs.getD i Pr.none).cv=1
 ·have e1:jf xs i=dZ xs i 0:=by unfold jf;rw [h1];rfl
  have E1:=ab e1;rw [h1] at hx;clear h1 e1
  go_enter Tryz.func254,Tryz.ntmps254
  go_wp2
  go_loopw [5,6] (fun lk kv wr=>∃ (k n:Nat),k<=i/\n<=i - k/\kv=.int .i64 ((k:Int) - 1)/\lk=.int .i64 n/\Hid (dZ xs k n=dZ xs i 0)/\Below w.heap.size w wr) (fun _ kv _=>(intOf kv+1).toNat)
  case atStart=>exact ⟨i,0,Nat.le_refl _,by omega,rfl,rfl,ab rfl,Below.refl _ _⟩
  case round =>
   obtain ⟨k,n,hk,hn,rfl,rfl,HQ,zN⟩:=hrel;clear hx
   cases k with
   | zero =>
    go_wp2;go_ret;exact ⟨al (by rw [E1.out,<-HQ.out];rfl),zN⟩
   | succ k =>
    obtain ⟨b',off',e',hb',_,_,hx,_⟩:=HC.out k (by omega)
    cases e'
    have hx:=(zN.cell (p:=⟨b,off+k * 4+2,none⟩) hb').trans hx;have hw0:(((k+1:Nat):Int) - 1)=(k:Int):=by omega
    rw [hw0];clear hw0
    rcases oZ xs k n with ⟨h1,hs⟩ | ⟨h1,h2,hs⟩ | ⟨h1,h2,h3,hs⟩ | ⟨h1,h2,h3,hs⟩
    ·have HS:=ab (hs.symm.trans HQ.out);rw [h1] at hx;clear h1 hs HQ;go_wp2;go_ret;exact ⟨al (by rw [E1.out,<-HS.out];simp;try omega),zN⟩
    ·have HS:=ab (hs.symm.trans HQ.out);rw [h2] at hx;clear h1 h2 hs HQ;go_wp2
     go_roundw
     case rel=>exact ⟨k,n+1,by omega,by omega,by simp,by go_num,HS,zN⟩
     case measure=>simp [intOf] <;> omega
    ·have HS:=ab (hs.symm.trans HQ.out);rw [h3] at hx;clear h1 h2 h3 hs HQ;go_wp2
     go_roundw
     case rel=>exact ⟨k,n,by omega,by omega,by simp,rfl,HS,zN⟩
     case measure=>simp [intOf] <;> omega
    ·have HS:=ab (hs.symm.trans HQ.out);clear hs HQ;generalize (xs.getD k Pr.none).cv=c at *;have n2:(c != 2)=true:=by simp [bne,h2]
     have n3:(c != 3)=true:=by simp [bne,h3]
     go_wp2;go_ret;exact ⟨al (by rw [E1.out,<-HS.out];rfl),zN⟩
 ·have N3:((xs.getD i Pr.none).cv == 1)=false:=by simpa using h1
  have e1:jf xs i=false:=by unfold jf;rw [N3];rfl
  rw [e1];clear h1 e1;generalize (xs.getD i Pr.none).cv=c at hx N3
  go_enter Tryz.func254,Tryz.ntmps254
  go_wp2;go_ret;exact ⟨af,Below.refl _ _⟩
theorem o0(xs:List Pr)(k:Nat):((xs.getD k Pr.none).pc=true/\ft xs (k+1)=true)\/((xs.getD k Pr.none).pc=false/\(xs.getD k Pr.none).br=4/\ft xs (k+1)=ft xs k)\/((xs.getD k Pr.none).pc=false/\((xs.getD k Pr.none).br == 4)=false/\ft xs (k+1)=false):=by
 have hstep:ft xs (k+1)=(if (xs.getD k Pr.none).pc=true then true else if (xs.getD k Pr.none).br=4 then ft xs k else false):=rfl;rw [hstep];generalize (xs.getD k Pr.none).br=b;generalize (xs.getD k Pr.none).pc=c
 cases c with
 | true=>exact .inl ⟨rfl,rfl⟩
 | false =>
  by_cases h:b=4
  ·exact .inr (.inl ⟨rfl,h,by simp [h]⟩)
  ·exact .inr (.inr ⟨rfl,by simpa using h,by simp [h]⟩)
theorem qC(xs:List Pr)(i:Nat):((xs.getD i Pr.none).pc=false/\ip xs i=false)\/((xs.getD i Pr.none).pc=true/\i<2/\ip xs i=false)
  \/ ((xs.getD i Pr.none).pc=true/\2<=i/\((xs.getD (i - 1) Pr.none).br == 5)=false/\ip xs i=false)\/((xs.getD i Pr.none).pc=true/\2<=i/\(xs.getD (i - 1) Pr.none).br=5/\(xs.getD (i - 1) Pr.none).pc=true/\ip xs i=false)
  \/ ((xs.getD i Pr.none).pc=true/\2<=i/\(xs.getD (i - 1) Pr.none).br=5/\(xs.getD (i - 1) Pr.none).pc=false/\ip xs i=ft xs (i - 1)):=by
 unfold ip;generalize (xs.getD i Pr.none).pc=a;generalize (xs.getD (i - 1) Pr.none).br=b;generalize (xs.getD (i - 1) Pr.none).pc=c
 cases a with
 | false=>exact .inl ⟨rfl,rfl⟩
 | true =>
  by_cases h2:2<=i
  ·by_cases h5:b=5
   ·cases c with
    | true=>exact .inr (.inr (.inr (.inl ⟨rfl,h2,h5,rfl,by simp⟩)))
    | false=>exact .inr (.inr (.inr (.inr ⟨rfl,h2,h5,rfl,by simp [h2,h5]⟩)))
   ·exact .inr (.inr (.inl ⟨rfl,h2,by simpa using h5,by simp [h5]⟩))
  ·exact .inr (.inl ⟨rfl,by omega,by simp [h2]⟩)
theorem uP(v:Value)(xs:List Pr)(i:Nat)(w:World)(hh:HeldP w v xs)(hi:i<xs.length)(hl:xs.length<=1000000) :
  Calls Tryz.prog 255 #[v,.int .i64 i] w (Gives w (.bool (ip xs i))):=by
 obtain ⟨ao,cap,rfl,hc0⟩:=id hh;clear hc0;obtain ⟨_,hc⟩:=hh.at;have HC:=ab hc;clear hc hh;obtain ⟨b,off,rfl,hb,_,hx,_,_⟩:=HC.out i hi
 rcases qC xs i with ⟨h1,hs⟩ | ⟨h1,h2,hs⟩ | ⟨h1,h2,h3,hs⟩ | ⟨h1,h2,h3,h4,hs⟩ | ⟨h1,h2,h3,h4,hs⟩
 ·rw [h1] at hx;rw [hs];clear h1 hs
  go_enter Tryz.func255,Tryz.ntmps255
  go_wp2;go_ret;exact ⟨af,Below.refl _ _⟩
 ·rw [h1] at hx;rw [hs];clear h1 hs
  go_enter Tryz.func255,Tryz.ntmps255
  go_wp2;go_ret;exact ⟨af,Below.refl _ _⟩
 all_goals
  rw [h1] at hx;obtain ⟨m,rfl⟩ : ∃ m,i=m+2:=⟨i - 2,by omega⟩;obtain ⟨b',off',e',hb',hy,hz,_,_⟩:=HC.out (m+1) (by omega)
  cases e'
  simp only [show m+2 - 1=m+1 by omega] at h3 hs
  try simp only [show m+2 - 1=m+1 by omega] at h4
  have hw0:((m+2:Nat):Int) - 1=((m+1:Nat):Int):=by omega
 ·rw [hs];generalize (xs.getD (m+1) Pr.none).br=br at *;have n3:¬ br=5:=by simpa using h3
  clear h1 hs
  go_enter Tryz.func255,Tryz.ntmps255
  go_wp2;go_ret;exact ⟨af,Below.refl _ _⟩
 ·rw [h3] at hy;rw [h4] at hz;rw [hs];clear h1 hs h3 h4
  go_enter Tryz.func255,Tryz.ntmps255
  go_wp2;go_ret;exact ⟨af,Below.refl _ _⟩
 ·rw [h3] at hy;rw [h4] at hz;have E1:=ab hs;clear h1 hs h3 h4
  go_enter Tryz.func255,Tryz.ntmps255
  go_wp2
  go_loopw [5] (fun kv wr=>∃ (k:Nat),k<=m+1/\kv=.int .i64 ((k:Int) - 1)/\Hid (ft xs k=ft xs (m+1))/\Below w.heap.size w wr) (fun kv _=>(intOf kv+1).toNat)
  case atStart=>exact ⟨m+1,Nat.le_refl _,by congr 1;omega,ab rfl,Below.refl _ _⟩
  case round =>
   obtain ⟨k,hk,rfl,HQ,zN⟩:=hrel;clear hx hy hz
   cases k with
   | zero =>
    go_wp2;go_ret;exact ⟨al (by rw [E1.out,<-HQ.out];rfl),zN⟩
   | succ k =>
    obtain ⟨b',off',e',hb',hx,hy,_,_⟩:=HC.out k (by omega)
    cases e'
    have hx:=(zN.cell (p:=⟨b,off+k * 4,none⟩) hb').trans hx;have hy:=(zN.cell (p:=⟨b,off+k * 4+1,none⟩) hb').trans hy;have Ce:(((k+1:Nat):Int) - 1)=(k:Int):=by omega
    rw [Ce];clear Ce hw0
    rcases o0 xs k with ⟨h1,hs⟩ | ⟨h1,h2,hs⟩ | ⟨h1,h2,hs⟩
    ·have HS:=ab (hs.symm.trans HQ.out);rw [h1] at hy;clear h1 hs HQ;go_wp2;go_ret;exact ⟨al (by rw [E1.out,<-HS.out];rfl),zN⟩
    ·have HS:=ab (hs.symm.trans HQ.out);rw [h1] at hy;rw [h2] at hx;clear h1 h2 hs HQ;go_wp2
     go_roundw
     case rel=>exact ⟨k,by omega,by simp,HS,zN⟩
     case measure=>simp [intOf] <;> omega
    ·have HS:=ab (hs.symm.trans HQ.out);rw [h1] at hy;clear h1 hs HQ;generalize (xs.getD k Pr.none).br=c at *;go_wp2;go_ret;exact ⟨al (by rw [E1.out,<-HS.out];rfl),zN⟩
theorem uO(xs:List Pr)(m:Nat)(j:Int)(hj:cl (xs.getD m Pr.none).br (xs.getD (m+1) Pr.none).br=j) :
  ((j == 1)=true/\jR xs (m+1)=true)\/((j == 1)=false/\jf xs (m+1)=true/\jR xs (m+1)=true)\/((j == 1)=false/\jf xs (m+1)=false/\ip xs (m+1)=true/\jR xs (m+1)=true)
  \/ ((j == 1)=false/\jf xs (m+1)=false/\ip xs (m+1)=false/\(j != 2)=true/\jR xs (m+1)=false)
  \/ ((j == 1)=false/\jf xs (m+1)=false/\ip xs (m+1)=false/\(j != 2)=false/\((xs.getD (m+1) Pr.none).br != 6)=true/\jR xs (m+1)=false)
  \/ ((j == 1)=false/\jf xs (m+1)=false/\ip xs (m+1)=false/\(j != 2)=false/\((xs.getD (m+1) Pr.none).br != 6)=false/\jR xs (m+1)=decide (dT xs (m+1) % 2=1)):=by
 unfold jR;rw [if_neg (show ¬ m+1=0 by omega),show m+1 - 1=m by omega,hj];generalize (xs.getD (m+1) Pr.none).br=b at *;generalize jf xs (m+1)=c;generalize ip xs (m+1)=p
 by_cases h1:j=1
 ·exact .inl ⟨by simpa using h1,by rw [if_pos h1]⟩
 have d1:(j == 1)=false:=by simpa using h1
 rw [if_neg h1]
 cases c with
 | true=>exact .inr (.inl ⟨d1,rfl,rfl⟩)
 | false =>
  cases p with
  | true=>exact .inr (.inr (.inl ⟨d1,rfl,rfl,rfl⟩))
  | false =>
   by_cases h2:j=2
   ·have d2:(j != 2)=false:=by simpa using h2
    by_cases h6:b=6
    ·exact .inr (.inr (.inr (.inr (.inr ⟨d1,rfl,rfl,d2,by simpa using h6,by simp [h2,h6]⟩))))
    ·exact .inr (.inr (.inr (.inr (.inl ⟨d1,rfl,rfl,d2,by simpa using h6,by simp [h6]⟩))))
   ·exact .inr (.inr (.inr (.inl ⟨d1,rfl,rfl,by simpa using h2,by simp [h2]⟩)))
theorem oW(xs:List Pr)(k:Nat):(((xs.getD k Pr.none).br == 6)=true/\dT xs (k+1)=dT xs k+1)\/(((xs.getD k Pr.none).br == 6)=false/\dT xs (k+1)=0):=by
 have hstep:dT xs (k+1)=(if (xs.getD k Pr.none).br=6 then dT xs k+1 else 0):=rfl;rw [hstep];generalize (xs.getD k Pr.none).br=b
 by_cases h:b=6
 ·exact .inl ⟨by simpa using h,by rw [if_pos h]⟩
 ·exact .inr ⟨by simpa using h,by rw [if_neg h]⟩
theorem l6(a b:Int)(w:World):Calls Tryz.prog 253 #[.int .i64 a,.int .i64 b] w (Gives w (.int .i64 (cl a b))):=pe a b w
theorem oX(v:Value)(xs:List Pr)(w:World)(hh:HeldP w v xs):Calls Tryz.prog 210 #[v,.int .i64 0] w (Gives w (.bool (jR xs 0))):=by
 obtain ⟨ao,cap,rfl,_⟩:=id hh;rw [show jR xs 0=false from rfl]
 go_enter Tryz.func210,Tryz.ntmps210
 go_wp2;go_ret;exact ⟨af,Below.refl _ _⟩
theorem ff(v:Value)(xs:List Pr)(m:Nat)(w:World)(hh:HeldP w v xs)(hi:m+1<xs.length)(hl:xs.length<=1000000) :
 Calls Tryz.prog 254 #[v,.int .i64 ((m:Int)+1)] w (Gives w (.bool (jf xs (m+1)))):=sE v xs (m+1) w hh hi hl
theorem ia(v:Value)(xs:List Pr)(m:Nat)(w:World)(hh:HeldP w v xs)(hi:m+1<xs.length)(hl:xs.length<=1000000) :
 Calls Tryz.prog 255 #[v,.int .i64 ((m:Int)+1)] w (Gives w (.bool (ip xs (m+1)))):=uP v xs (m+1) w hh hi hl
theorem oY(v:Value)(xs:List Pr)(m:Nat)(w:World)(hh:HeldP w v xs)(hi:m+1<xs.length)(hl:xs.length<=1000000) :
  Calls Tryz.prog 210 #[v,.int .i64 ((m:Int)+1)] w (Gives w (.bool (jR xs (m+1)))):=by
 obtain ⟨ao,cap,rfl,hc0⟩:=id hh;clear hc0;obtain ⟨_,hc⟩:=hh.at;have HC:=ab hc;have HH:=ab hh;clear hc hh;obtain ⟨b,off,rfl,hb,hx,_,_,_⟩:=HC.out m (by omega);obtain ⟨b',off',e',hb',hy,_,_,_⟩:=HC.out (m+1) hi
 cases e'
 have hw0:(m:Int)+1 - 1=(m:Int):=by omega
 obtain ⟨j,hj⟩ : ∃ j,cl (xs.getD m Pr.none).br (xs.getD (m+1) Pr.none).br=j:=⟨_,rfl⟩;have KP:=uO xs m j hj;obtain ⟨x,hx0⟩:=ae ((xs.getD m Pr.none).br);obtain ⟨y,CF⟩:=ae ((xs.getD (m+1) Pr.none).br);rw [<-CF] at hj hy KP;rw [<-hx0] at hj hx;have HY0:=ab CF;have DU:=ab KP;have HJ:=ab hj;clear hx0 CF KP;have kx:=aj hx;have ky:=aj hy;have hlx:(m:Int)<(xs.length:Int):=by omega
 have hly:(m:Int)+1<(xs.length:Int):=by omega
 have HY:=ab hy;clear hx hy hj
 go_enter Tryz.func210,Tryz.ntmps210
 go_wp2_with fail
 refine aI (by kernel_rfl) (by kernel_rfl) ?_
 repeat (go_big_quiet_step ((go_at_call 253;exact dY (l6 _ _ _))))
 refine wpQuiet_nil ?_;intro _ hw';obtain ⟨u,hw''⟩:=hw';subst hw'';rw [HJ.out];obtain ⟨W,hW⟩:=ae (ext w u);rw [<-hW];have hb0:Below w.heap.size w W:=by rw [hW];exact u.ok
 have IE:=HH.out.below hb0;have O5:=(hb0.cell (p:=⟨b,off+(m+1) * 4,none⟩) hb).trans HY.out;clear hW kx ky
 rcases DU.out with ⟨h1,hs⟩ | ⟨h1,h2,hs⟩ | ⟨h1,h2,h3,hs⟩ | ⟨h1,h2,h3,h4,hs⟩ | ⟨h1,h2,h3,h4,h5,hs⟩ | ⟨h1,h2,h3,h4,h5,hs⟩
 ·have HS:=ab hs;clear hs DU;go_wp2;go_ret;exact ⟨al (by rw [HS.out];rfl),hb0⟩
 ·have HS:=ab hs;clear hs DU
  go_wp2_with fail
  refine (ff _ xs m _ IE hi hl).mono ?_;rintro e w2 ⟨rfl,b2⟩;have hb2:=hb0.trans (b2.mono hb0.size);go_wp2;go_ret;exact ⟨al (by rw [HS.out];rfl),hb2⟩
 ·have HS:=ab hs;clear hs DU
  go_wp2_with fail
  refine (ff _ xs m _ IE hi hl).mono ?_;rintro e w2 ⟨rfl,b2⟩
  go_wp2_with fail
  refine (ia _ xs m _ (IE.below b2) hi hl).mono ?_;rintro e w3 ⟨rfl,b3⟩;have hb3:=hb0.trans ((b2.trans (b3.mono b2.size)).mono hb0.size);go_wp2;go_ret;exact ⟨al (by rw [HS.out];rfl),hb3⟩
 ·have HS:=ab hs;clear hs DU
  go_wp2_with fail
  refine (ff _ xs m _ IE hi hl).mono ?_;rintro e w2 ⟨rfl,b2⟩
  go_wp2_with fail
  refine (ia _ xs m _ (IE.below b2) hi hl).mono ?_;rintro e w3 ⟨rfl,b3⟩;have hb3:=hb0.trans ((b2.trans (b3.mono b2.size)).mono hb0.size);go_wp2;go_ret;exact ⟨al (by rw [HS.out];rfl),hb3⟩
 ·have HS:=ab hs;clear hs DU
  go_wp2_with fail
  refine (ff _ xs m _ IE hi hl).mono ?_;rintro e w2 ⟨rfl,b2⟩
  go_wp2_with fail
  refine (ia _ xs m _ (IE.below b2) hi hl).mono ?_;rintro e w3 ⟨rfl,b3⟩;have hb3:=hb0.trans ((b2.trans (b3.mono b2.size)).mono hb0.size);have hy3:=((b2.trans (b3.mono b2.size)).cell (p:=⟨b,off+(m+1) * 4,none⟩) (Nat.lt_of_lt_of_le hb hb0.size)).trans O5;go_wp2;go_ret;exact ⟨al (by rw [HS.out];rfl),hb3⟩
 ·have HS:=ab hs;clear hs DU
  go_wp2_with fail
  refine (ff _ xs m _ IE hi hl).mono ?_;rintro e w2 ⟨rfl,b2⟩
  go_wp2_with fail
  refine (ia _ xs m _ (IE.below b2) hi hl).mono ?_;rintro e w3 ⟨rfl,b3⟩;have hb3:=hb0.trans ((b2.trans (b3.mono b2.size)).mono hb0.size);have hy3:=((b2.trans (b3.mono b2.size)).cell (p:=⟨b,off+(m+1) * 4,none⟩) (Nat.lt_of_lt_of_le hb hb0.size)).trans O5;go_wp2
  go_loopw [6,7] (fun nv kv wr=>∃ (k n:Nat),k<=m+1/\n<=m+1 - k/\nv=.int .i64 n/\kv=.int .i64 ((k:Int) - 1)/\Hid (n+dT xs k=dT xs (m+1))/\Below w.heap.size w wr) (fun _ kv _=>(intOf kv+1).toNat)
  case atStart=>exact ⟨m+1,0,Nat.le_refl _,by omega,rfl,by congr 1;omega,ab (by omega),hb3⟩
  case round =>
   obtain ⟨k,n,hk,hn,rfl,rfl,HQ,zN⟩:=hrel;clear O5 hy3
   cases k with
   | zero =>
    have hq:=HQ.out;rw [show dT xs 0=0 from rfl] at hq;have Ex:n=dT xs (m+1):=by omega
    have HN:=ab Ex;clear hq Ex;go_wp2;go_ret;exact ⟨al (by rw [HS.out,<-HN.out];simp;rw [Bool.eq_iff_iff];simp;omega),zN⟩
   | succ k =>
    obtain ⟨b',off',e',hb',hx,_⟩:=HC.out k (by omega)
    cases e'
    have hx:=(zN.cell (p:=⟨b,off+k * 4,none⟩) hb').trans hx;have Ce:(((k+1:Nat):Int) - 1)=(k:Int):=by omega
    rw [Ce];clear Ce hw0
    rcases oW xs k with ⟨h1,hs⟩ | ⟨h1,hs⟩
    ·have EW:=ab (show n+1+dT xs k=dT xs (m+1) by have:=HQ.out;rw [hs] at this;omega);clear hs HQ;generalize (xs.getD k Pr.none).br=c at *;go_wp2
     go_roundw
     case rel=>exact ⟨k,n+1,by omega,by omega,by go_num,by simp,EW,zN⟩
     case measure=>simp [intOf] <;> omega
    ·have HN:=ab (show n=dT xs (m+1) by have:=HQ.out;rw [hs] at this;omega);clear hs HQ;generalize (xs.getD k Pr.none).br=c at *;go_wp2;go_ret;exact ⟨al (by rw [HS.out,<-HN.out];simp;rw [Bool.eq_iff_iff];simp;omega),zN⟩
theorem qB(v:Value)(xs:List Pr)(i:Nat)(w:World)(hh:HeldP w v xs)(hi:i<xs.length)(hl:xs.length<=1000000) :
  Calls Tryz.prog 210 #[v,.int .i64 i] w (Gives w (.bool (jR xs i))):=by
 cases i with
 | zero=>exact oX v xs w hh
 | succ m=>exact oY v xs m w hh hi hl
def At(w:World)(g:Nat)(xs:List Pr)(k:Nat):Prop:=zt w g (decide (0<k)) (lSt xs k) (cSt xs k) (pSt xs k) (oSt xs k)
def fR{α:Type}(L:List (List α))(k:Nat):List α:=(L.take k).flatten
theorem iR{α:Type}(L:List (List α))(k:Nat)(h:k<L.length):fR L (k+1)=fR L k++L.getD k []:=by
 unfold fR;rw [List.take_succ_eq_append_getElem h,List.flatten_append]
 simp [List.getD,List.getElem?_eq_getElem h]
theorem vX{α:Type}(L:List (List α)):∀ k,k<=L.length->(fR L k).length<=(fR L L.length).length:=by
  have h:∀ d k,k+d=L.length->(fR L k).length<=(fR L L.length).length:=by
    intro d
    induction d with
    | zero=>
     intro k e;have:k=L.length:=by omega
     subst this;exact Nat.le_refl _
    | succ d ih =>
      intro k e;have h1:=ih (k+1) (by omega);rw [iR L k (by omega),List.length_append] at h1;omega
  intro k hk;exact h (L.length - k) k (by omega)
theorem m3{α:Type}(L:List (List α)):fR L L.length=L.flatten:=by unfold fR;rw [List.take_length]
end Go.Proofs.YtoeggiplcaegoaaGreatDoor
namespace Go.Proofs.YtoeggiplcaegoaaGreatDoor
def aL(T:List (Int × Int))(r:Int):Bool:=T.any fun p=>decide (p.1<=r) && decide (r<=p.2)
def dy:List (Int × Int)->Bool
 | []=>true
 | [p]=>decide (p.1<=p.2)
 | p :: q :: l=>decide (p.1<=p.2) && decide (p.2<q.1) && dy (q :: l)
theorem gh{p:Int × Int}{l:List (Int × Int)}(h:dy (p :: l)=true):p.1<=p.2/\dy l=true/\∀ q ∈ l,p.2<q.1:=by
 induction l generalizing p with
 | nil=>exact ⟨by simpa [dy] using h,rfl,fun q hq=>by cases hq⟩
 | cons q l ih =>
  simp only [dy,Bool.and_eq_true,decide_eq_true_eq] at h;obtain ⟨i1,_,i3⟩:=ih h.2;refine ⟨h.1.1,h.2,fun x hx=>?_⟩
  rcases List.mem_cons.1 hx with rfl | hx
  ·exact h.1.2
  ·have:=i3 x hx;omega
theorem uK:∀ {T:List (Int × Int)},dy T=true->∀ i (h:i<T.length),T[i].1<=T[i].2
 | [],_,i,h=>absurd h (Nat.not_lt_zero _)
 | p :: l,hu,0,_=>(gh hu).1
 | p :: l,hu,i+1,h=>uK (T:=l) (gh hu).2.1 i (by simpa using h)
theorem uL:∀ {T:List (Int × Int)},dy T=true->∀ i j (hi:i<j) (hj:j<T.length),(T[i]'(by omega)).2<T[j].1
 | [],_,i,j,_,hj=>absurd hj (Nat.not_lt_zero _)
 | p :: l,hu,0,j+1,_,hj=>(gh hu).2.2 _ (List.getElem_mem (by simpa using hj))
 | p :: l,hu,i+1,j+1,hi,hj=>uL (T:=l) (gh hu).2.1 i j (by omega) (by simpa using hj)
theorem oO{T:List (Int × Int)}{r:Int}(i:Nat)(h:i<T.length)(h1:T[i].1<=r)(h2:r<=T[i].2):aL T r=true :=
 List.any_eq_true.2 ⟨T[i],List.getElem_mem h,by simp [h1,h2]⟩
theorem oP{T:List (Int × Int)}{r:Int}(h:aL T r=true):∃ i,∃ h:i<T.length,T[i].1<=r/\r<=T[i].2:=by
 obtain ⟨p,hp,hh⟩:=List.any_eq_true.1 h;obtain ⟨i,hi,rfl⟩:=List.getElem_of_mem hp
 simp at hh
 exact ⟨i,hi,hh.1,hh.2⟩
theorem gi{T:List (Int × Int)}{r:Int}(h:∀ i (h:i<T.length),¬ (T[i].1<=r/\r<=T[i].2)):aL T r=false:=by
 cases ht:aL T r with
 | false=>rfl
 | true =>
  obtain ⟨i,hi,hh⟩:=oP ht;exact absurd hh (h i hi)
theorem nM{T:List (Int × Int)}{r:Int}(hu:dy T=true)(i:Nat)(hi:i<T.length)(AF:∀ j (hj:j<i),(T[j]'(by omega)).2<r)(CR:r<=T[i].2):aL T r=decide (T[i].1<=r):=by
 by_cases h1:T[i].1<=r
 ·rw [decide_eq_true h1];exact oO i hi h1 CR
 ·rw [decide_eq_false h1];refine gi fun k hk hh=>?_
  rcases Nat.lt_trichotomy k i with h | h | h
  ·have:=AF k h;omega
  ·subst h;omega
  ·have:=uL hu i k h hk;have:=uK hu i hi;omega
theorem qx{T:List (Int × Int)}{r:Int}(AF:∀ j (hj:j<T.length),(T[j]'(by omega)).2<r):aL T r=false :=
 gi fun k hk hh=>by have:=AF k hk;omega
def apart(T U:List (Int × Int)):Bool:=T.all fun p=>U.all fun q=>decide (p.2<q.1) || decide (q.2<p.1)
theorem jP{T U:List (Int × Int)}{r:Int}(h:apart T U=true)(ht:aL T r=true):aL U r=false:=by
 refine gi fun k hk hh=>?_
 obtain ⟨i,hi,h1,h2⟩:=oP ht;have:=List.all_eq_true.1 (List.all_eq_true.1 h _ (List.getElem_mem hi)) _ (List.getElem_mem hk)
 simp at this
 omega
def zD(T U:List (Int × Int)):Bool:=T.all fun p=>U.any fun q=>decide (q.1<=p.1) && decide (p.2<=q.2)
theorem mB(a b r:Int):aL [(a,b)] r=(decide (a<=r) && decide (r<=b)):=by simp [aL]
def tControl:List (Int × Int):=[
 (0,9),(11,12),(14,31),(127,159),(173,173),(1564,1564),(6158,6158),(8203,8203),(8206,8207),(8232,8238),(8288,8303),
 (65279,65279),(65520,65531),(917504,917535),(917632,917759),(918000,921599)]
theorem er:dy tControl=true:=by decide +kernel
theorem bG:tControl.length=16:=by decide +kernel
def tExtend:List (Int × Int):=[
 (768,879),(1155,1161),(1425,1469),(1471,1471),(1473,1474),(1476,1477),(1479,1479),(1552,1562),(1611,1631),(1648,1648),
 (1750,1756),(1759,1764),(1767,1768),(1770,1773),(1809,1809),(1840,1866),(1958,1968),(2027,2035),(2070,2073),(2075,2083),
 (2259,2273),(2275,2306),(2362,2362),(2364,2364),(2369,2376),(2381,2381),(2385,2391),(2402,2403),(2433,2433),(2492,2492),
 (2494,2494),(2497,2500),(2509,2509),(2519,2519),(2530,2531),(2561,2562),(2620,2620),(2625,2626),(2631,2632),(2635,2637),
 (2748,2748),(2753,2757),(2765,2765),(2876,2876),(2878,2879),(2881,2884),(2893,2893),(2902,2903),(3132,3132),(3134,3136),
 (3142,3144),(3146,3149),(3276,3277),(3390,3390),(3393,3396),(3405,3405),(3633,3633),(3636,3642),(3655,3662),(3761,3761),
 (3764,3772),(3864,3865),(3953,3966),(4957,4959),(6832,6862),(7616,7679),(8204,8204),(8400,8432),(12330,12335),(12441,12442),
 (42607,42610),(64286,64286),(65024,65039),(65056,65071),(127995,127999),(917536,917631),(917760,917999)]
theorem gj:dy tExtend=true:=by decide +kernel
theorem ci:tExtend.length=77:=by decide +kernel
def tPrepend:List (Int × Int):=[
 (1536,1541),(1757,1757),(1807,1807),(2192,2193),(2274,2274),(3406,3406),(69821,69821),(69837,69837)]
theorem kj:dy tPrepend=true:=by decide +kernel
theorem dp:tPrepend.length=8:=by decide +kernel
def tSpacing:List (Int × Int):=[
 (2307,2307),(2363,2363),(2366,2368),(2377,2380),(2382,2383),(2434,2435),(2495,2496),(2503,2504),(2507,2508),(2563,2563),
 (2622,2624),(2691,2691),(2750,2752),(2761,2761),(2818,2819),(2880,2880),(2887,2888),(3073,3075),(3137,3140),(3330,3331),
 (3391,3392),(3398,3400),(3635,3635),(3763,3763),(3902,3903),(4155,4156)]
theorem gM:dy tSpacing=true:=by decide +kernel
theorem cE:tSpacing.length=26:=by decide +kernel
def tPict:List (Int × Int):=[
 (169,169),(174,174),(8252,8252),(8265,8265),(8482,8482),(8505,8505),(8596,8601),(8617,8618),(8986,8987),(9000,9000),(9096,9096),
 (9167,9167),(9193,9203),(9208,9210),(9410,9410),(9642,9643),(9654,9654),(9664,9664),(9723,9726),(9728,9733),(9735,9746),
 (9748,9861),(9872,9989),(9992,10002),(10004,10004),(10006,10006),(10013,10013),(10017,10017),(10024,10024),(10035,10036),
 (10052,10052),(10055,10055),(10060,10060),(10062,10062),(10067,10069),(10071,10071),(10083,10087),(10133,10135),(10145,10145),
 (10160,10160),(10175,10175),(10548,10549),(11013,11015),(11035,11036),(11088,11088),(11093,11093),(12336,12336),(12349,12349),
 (12951,12951),(12953,12953),(126976,127231),(127245,127247),(127279,127279),(127340,127345),(127358,127359),(127374,127374),
 (127377,127386),(127405,127461),(127489,127503),(127514,127514),(127535,127535),(127538,127546),(127548,127551),(127561,127994),
 (128000,128317),(128326,128591),(128640,128767),(128884,128895),(128981,129023),(129036,129039),(129096,129103),(129114,129119),
 (129160,129167),(129198,129279),(129292,129338),(129340,129349),(129351,129791),(130048,131069)]
theorem uM:dy tPict=true:=by decide +kernel
theorem fK:tPict.length=78:=by decide +kernel
def tCons:List (Int × Int):=[
 (2325,2361),(2392,2399),(2424,2431),(2453,2472),(2474,2480),(2482,2482),(2486,2489),(2524,2525),(2527,2527),(2544,2545),
 (2709,2728),(2730,2736),(2738,2739),(2741,2745),(2809,2809),(2837,2856),(2858,2864),(2866,2867),(2869,2873),(2908,2909),
 (2911,2911),(2929,2929),(3093,3112),(3114,3129),(3160,3162),(3349,3386)]
theorem jc:dy tCons=true:=by decide +kernel
theorem dc:tCons.length=26:=by decide +kernel
def tLink:List (Int × Int):=[
 (2381,2381),(2509,2509),(2765,2765),(2893,2893),(3149,3149),(3405,3405)]
theorem lj:dy tLink=true:=by decide +kernel
theorem dI:tLink.length=6:=by decide +kernel
def tJoin:List (Int × Int):=[
 (768,879),(1155,1159),(1425,1469),(1552,1562),(1611,1631),(2364,2364),(2385,2388),(2492,2492),(2748,2748),(2876,2876),
 (3132,3132),(6832,6845),(7616,7679),(8205,8205),(8400,8412),(12330,12335),(12441,12442),(65056,65071)]
theorem oQ:dy tJoin=true:=by decide +kernel
theorem eV:tJoin.length=18:=by decide +kernel
def tWide:List (Int × Int):=[
 (4352,4447),(8986,8987),(9001,9002),(9193,9196),(9200,9200),(9203,9203),(9725,9726),(9748,9749),(9800,9811),(9855,9855),
 (9875,9875),(9889,9889),(9898,9899),(9917,9918),(9924,9925),(9934,9934),(9940,9940),(9962,9962),(9970,9971),(9973,9973),
 (9978,9978),(9981,9981),(9989,9989),(9994,9995),(10024,10024),(10060,10060),(10062,10062),(10067,10069),(10071,10071),
 (10133,10135),(10160,10160),(10175,10175),(11035,11036),(11088,11088),(11093,11093),(11904,11929),(11931,12019),(12032,12245),
 (12272,12287),(12289,12350),(12353,12438),(12441,12543),(12549,12591),(12593,12686),(12688,12771),(12784,12830),(12832,12871),
 (12880,19903),(19968,42124),(42128,42182),(43360,43388),(44032,55203),(63744,64255),(65040,65049),(65072,65106),(65108,65126),
 (65128,65131),(94176,94180),(94208,100343),(100352,101589),(110592,110882),(126980,126980),(127183,127183),(127374,127374),
 (127377,127386),(127488,127490),(127504,127547),(127552,127560),(127568,127569),(127584,127589),(127744,127776),(127789,127797),
 (127799,127868),(127870,127891),(127904,127946),(127951,127955),(127968,127984),(127988,127988),(127992,128062),(128064,128064),
 (128066,128252),(128255,128317),(128331,128334),(128336,128359),(128378,128378),(128405,128406),(128420,128420),(128507,128591),
 (128640,128709),(128716,128716),(128720,128722),(128725,128727),(128732,128735),(128747,128748),(128756,128764),(128992,129003),
 (129008,129008),(129292,129338),(129340,129349),(129351,129535),(129648,129660),(129664,129672),(129680,129725),(129727,129733),
 (129742,129755),(129760,129768),(129776,129784),(131072,196605),(196608,262141)]
theorem jd:dy tWide=true:=by decide +kernel
theorem dd:tWide.length=109:=by decide +kernel
def tFull:List (Int × Int):=[
 (12288,12288),(65281,65376),(65504,65510)]
theorem ll:dy tFull=true:=by decide +kernel
theorem dJ:tFull.length=3:=by decide +kernel
def tHalf:List (Int × Int):=[
 (8361,8361),(65377,65470),(65474,65479),(65482,65487),(65490,65495),(65498,65500),(65512,65518)]
theorem oR:dy tHalf=true:=by decide +kernel
theorem eW:tHalf.length=7:=by decide +kernel
theorem a1:apart tSpacing tPrepend=true:=by decide +kernel
theorem a2:apart tControl [(13,13),(10,10),(8205,8205),(127462,127487)]=true:=by decide +kernel
theorem a3:apart tExtend [(13,13),(10,10),(8205,8205),(127462,127487)]=true:=by decide +kernel
end Go.Proofs.YtoeggiplcaegoaaGreatDoor
namespace Go.Proofs.YtoeggiplcaegoaaGreatDoor
open Go.RowKit Go.ChangeShapes Go.WideShapes
def HeldT(k:IntKind)(w:World)(v:Value)(T:List (Int × Int)):Prop :=
 ∃ ao cap,v=.slice ao T.length cap/\∀ i,i<T.length->∃ b off,ao=some ⟨b,off,none⟩/\b<w.heap.size/\w.cell? ⟨b,off+i * 2,none⟩=some (.int k (T.getD i (0,0)).1)/\w.cell? ⟨b,off+i * 2+1,none⟩=some (.int k (T.getD i (0,0)).2)
theorem HeldT.below{k:IntKind}{w w':World}{v:Value}{T:List (Int × Int)}(h:HeldT k w v T)(hb:Below w.heap.size w w'):HeldT k w' v T:=by
 obtain ⟨ao,cap,rfl,hc⟩:=h;refine ⟨ao,cap,rfl,fun i hi=>?_⟩;obtain ⟨b,off,rfl,hlt,h1,h2⟩:=hc i hi;exact ⟨b,off,rfl,by have:=hb.size;omega,(hb.cell (p:=⟨b,_,none⟩) hlt).trans h1,(hb.cell (p:=⟨b,_,none⟩) hlt).trans h2⟩
theorem HeldT.view{k:IntKind}{w:World}{v:Value}{T:List (Int × Int)}(h:HeldT k w v T):∃ ao cap,v=.slice ao T.length cap/\∀ i,i<T.length->∃ b off,ao=some ⟨b,off,none⟩/\b<w.heap.size/\w.cell? ⟨b,off+i * 2,none⟩=some (.int k (T.getD i (0,0)).1)/\w.cell? ⟨b,off+i * 2+1,none⟩=some (.int k (T.getD i (0,0)).2):=h
def az(k:IntKind)(T:List (Int × Int)):List Value:=T.flatMap fun p=>[.int k p.1,.int k p.2]
theorem nJ(k:IntKind)(T:List (Int × Int)):(az k T).length=2 * T.length:=by
 induction T with
 | nil=>rfl
 | cons p T ih=>simp only [az,List.flatMap_cons,List.length_append,List.length_cons,List.length_nil] at *;omega
theorem gL(k:IntKind):∀ (T:List (Int × Int)) (i:Nat),i<T.length->(az k T)[i * 2]? = some (.int k (T.getD i (0,0)).1)/\(az k T)[i * 2+1]? = some (.int k (T.getD i (0,0)).2)
 | [],i,h=>absurd h (Nat.not_lt_zero _)
 | p :: T,0,_=>⟨rfl,rfl⟩
 | p :: T,i+1,h=>by
  have:=gL k T i (by simpa using h);rw [show (i+1) * 2=i * 2+1+1 by omega]
  simpa [az] using this
theorem bM{k:IntKind}{w:World}{g:Nat}{T:List (Int × Int)}{t:TypeId}{cap:Nat}(h:Has w g (az k T) t):HeldT k w (.slice (some ⟨g,0,none⟩) T.length cap) T:=by
 refine ⟨_,_,rfl,fun i hi=>⟨g,0,rfl,h.lt,?_,?_⟩⟩
 ·rw [Nat.zero_add];exact h.cell _ _ (gL k T i hi).1
 ·rw [Nat.zero_add];exact h.cell _ _ (gL k T i hi).2
def ja(T:List (Int × Int))(r:Int)(i:Nat):Bool:=decide (r<=(T.getD i (0,0)).2)
theorem fd{T:List (Int × Int)}{i:Nat}(h:i<T.length):T.getD i (0,0)=T[i]:=by simp [List.getD,List.getElem?_eq_getElem h]
theorem sA{T:List (Int × Int)}{r:Int}(hu:dy T=true):∀ a b,a<=b->b<T.length->ja T r a=true->ja T r b=true:=by
 intro a b hab hb h;unfold ja at *;rw [fd hb];rw [fd (by omega)] at h
 rcases Nat.lt_or_ge a b with hlt | Kh
 ·have h1:=uL hu a b hlt hb;have h2:=uK hu b hb
  simp at h ⊢
  omega
 ·obtain rfl:a=b:=by omega
  exact h
theorem xS(w:World)(b1 b2:Nat)(ao:Option Addr)(n cap:Nat)(T:List (Int × Int))(r:Int)(hb1:w.cell? ⟨b1,0,none⟩=some (.slice ao n cap))(hb2:w.cell? ⟨b2,0,none⟩=some (.int .i32 r))(hh:HeldT .i32 w (.slice ao n cap) T)(i:Nat)(hi:i<T.length)(hl:T.length<=1000000) :
  Calls Tryz.prog 282 (#[.int .i64 i] ++ #[.pointer (some ⟨b1,0,none⟩),.pointer (some ⟨b2,0,none⟩)]) w (Gives w (.bool (ja T r i))):=by
 obtain ⟨ao',cap',e,hc⟩:=hh
 cases e
 obtain ⟨b,off,rfl,hb,h1,h2⟩:=hc i hi;unfold ja;generalize (T.getD i (0,0)).2=y at *;clear hc h1
 go_enter Tryz.func282,Tryz.ntmps282
 go_wp2
 go_quiet (fail)
 go_wp2;go_ret;exact ⟨af,(Below.refl _ _).drewN _⟩
theorem aZ(v:Value)(T:List (Int × Int))(r:Int)(w:World)(hh:HeldT .i32 w v T)(hu:dy T=true)(hl:T.length<=1000000) :
  Calls Tryz.prog 242 #[v,.int .i32 r] w (Gives w (.bool (aL T r))):=by
 obtain ⟨ao,cap,rfl,hc⟩:=hh.view;obtain ⟨W,hW⟩:=ae ((w.alloc (.cells #[.slice ao T.length cap] 296)).alloc (.cells #[.int .i32 r] 21));have hb1:Has W w.heap.size [.slice ao T.length cap] 296:=by rw [hW];exact (Has.new w _ _).alloc _
 have hb2:Has W (w.heap.size+1) [.int .i32 r] 21:=by rw [hW];have:=Has.new (w.alloc (.cells #[.slice ao T.length cap] 296)) [.int .i32 r] 21;simpa using this
 have hl0:Below w.heap.size w W:=by rw [hW];exact (zI _ _).alloc (by simp) _
 have hs:=qw 282 #[.pointer (some ⟨w.heap.size,0,none⟩),.pointer (some ⟨w.heap.size+1,0,none⟩)] T.length (ja T r) W (enters_of Tryz.func282 (by kernel_rfl) rfl) (by omega)
  (fun w' hb i hi=>xS w' w.heap.size (w.heap.size+1) ao T.length cap T r ((hb1.below hb hb1.lt).cell 0 _ rfl) ((hb2.below hb hb2.lt).cell 0 _ rfl) ((hh.below hl0).below hb) i hi hl) (sA hu)
 have HS:=ab hs;have HC:=ab hc;have HU:=ab hu;have HL:=ab hl0;have Ag:=ab hb1;have AM:=ab hb2;clear hs hc hu hl0 hb1 hb2 hh
 go_enter Tryz.func242,Tryz.ntmps242
 go_wp2_with fail
 rw [<-hW];refine HS.out.mono ?_;rintro e w' ⟨k,hk,rfl,AF,CR,zN⟩;have hb1:=(Ag.out.below zN Ag.out.lt).cell 0 _ rfl;have hb2:=(AM.out.below zN AM.out.lt).cell 0 _ rfl;have hbl:Below w.heap.size w w':=HL.out.trans (zN.mono HL.out.size)
 by_cases Ho:k<T.length
 ·obtain ⟨b,off,rfl,hb,h1,h2⟩:=HC.out k Ho;have h1:=(hbl.cell (p:=⟨b,off+k * 2,none⟩) hb).trans h1;have he:aL T r=decide ((T.getD k (0,0)).1<=r):=by
   rw [fd Ho];refine nM HU.out k Ho (fun j hj=>?_) ?_
   ·have:=AF j hj;unfold ja at this;rw [fd (by omega)] at this
    simpa using this
   ·have:=CR k (Nat.le_refl _) Ho;unfold ja at this;rw [fd Ho] at this
    simpa using this
  have HE:=ab he;clear he AF CR h2 zN hW;generalize (T.getD k (0,0)).1=y at *;go_wp2
  go_quiet (fail)
  go_wp2;go_ret;exact ⟨al (by rw [HE.out];rfl),hbl.drewN _⟩
 ·have he:aL T r=false:=qx fun j hj=>by
   have:=AF j (by omega);unfold ja at this;rw [fd hj] at this
   simpa using this
  have HE:=ab he;obtain rfl:k=T.length:=by omega
  clear he AF CR zN hW;go_wp2
  go_quiet (fail)
  go_wp2;go_ret;exact ⟨al (by rw [HE.out];rfl),hbl.drewN _⟩
def okB(xs:List Int)(m:Nat):Bool:=(m != 1 || (decide (lo2 (xs.getD 0 0)<=xs.getD m 0) && decide (xs.getD m 0<=hi2 (xs.getD 0 0)))) && fC (xs.getD m 0)
def goF(xs:List Int)(lead:Int):Nat->Nat->Nat
 | 0,m=>m
 | f+1,m=>if (m:Int)<lead/\m<xs.length/\okB xs m=true then goF xs lead f (m+1) else m
def fp(xs:List Int)(lead:Int):Nat:=goF xs lead 4 1
theorem zm(xs:List Int)(lead:Int)(f m:Nat)(h0:m<=xs.length)(h1:(m:Int)<=lead\/m<=1):m<=goF xs lead f m/\goF xs lead f m<=xs.length/\((goF xs lead f m:Int)<=lead\/goF xs lead f m<=1):=by
 induction f generalizing m with
 | zero=>exact ⟨Nat.le_refl _,h0,h1⟩
 | succ f ih =>
  unfold goF
  split
  ·rename_i h
   have:=ih (m+1) (by omega) (.inl (by omega));omega
  ·exact ⟨Nat.le_refl _,h0,h1⟩
theorem fD(xs:List Int)(lead:Int)(h:0<xs.length):1<=fp xs lead/\fp xs lead<=xs.length/\((fp xs lead:Int)<=lead\/fp xs lead<=1):=zm xs lead 4 1 h (.inr (by omega))
def yI(v:Value):Prop:=∀ ao n c,v=.slice ao n c->n<=c
def eT(xs:List Int):Nat->Int
 | 0=>bY (xs.getD 0 0)
 | m+1=>eT xs m * 64+xs.getD (m+1) 0 % 64
abbrev G5:=Int × Int × Int × Int × Bool
def cO(xs:List Int)(p:Nat):G5 :=
 if ax (xs.getD p 0)=0 then (65533,p,1,p+1,true) else
 if (fp (xs.drop p) (ax (xs.getD p 0)):Int)=ax (xs.getD p 0) then (eT ((xs.drop p).take (fp (xs.drop p) (ax (xs.getD p 0)))) (fp (xs.drop p) (ax (xs.getD p 0)) - 1),p,fp (xs.drop p) (ax (xs.getD p 0)),p+fp (xs.drop p) (ax (xs.getD p 0)),false)
 else (65533,p,fp (xs.drop p) (ax (xs.getD p 0)),min (p+fp (xs.drop p) (ax (xs.getD p 0))+1:Int) xs.length,true)
theorem xz{k:IntKind}{w:World}{b off n cap:Nat}{xs:List Int}(h:Held k w (.slice (some ⟨b,off,none⟩) n cap) xs)(i j:Nat)(hb:b<w.heap.size)(hj:i+j<=xs.length)(c:Nat):Held k w (.slice (some ⟨b,off+i,none⟩) j c) ((xs.drop i).take j):=by
 have hl:((xs.drop i).take j).length=j:=by simp;omega
 have:=h.spots;rw [show (Value.slice (some ⟨b,off+i,none⟩) j c)=.slice (some ⟨b,off+i,none⟩) ((xs.drop i).take j).length c by rw [hl]];refine hJ hb fun q hq=>?_
 rw [hl] at hq;obtain ⟨b',off',e,_,hc⟩:=this (i+q) (by omega)
 cases e
 rw [Nat.add_assoc,hc]
 simp [List.getD,List.getElem?_take,hq]
theorem sc{xs:List Int}(hr:∀ i,i<xs.length->0<=xs.getD i 0/\xs.getD i 0<=255)(p:Nat):∀ i,i<(xs.drop p).length->0<=(xs.drop p).getD i 0/\(xs.drop p).getD i 0<=255:=by
 intro i hi;have:=hr (p+i) (by simp at hi;omega)
 simpa [List.getD] using this
theorem yA{xs:List Int}(hr:∀ i,i<xs.length->0<=xs.getD i 0/\xs.getD i 0<=255)(p:Nat):∀ i,i<(xs.take p).length->0<=(xs.take p).getD i 0/\(xs.take p).getD i 0<=255:=by
 intro i hi;have hi2:i<p/\i<xs.length:=by simp at hi;omega
 have:=hr i hi2.2
 simpa [List.getD,List.getElem?_take,hi2.1] using this
theorem zk(xs:List Int)(lead:Int)(f m:Nat):m<=goF xs lead f m:=by
 induction f generalizing m with
 | zero=>exact Nat.le_refl _
 | succ f ih =>
  unfold goF
  split
  ·have:=ih (m+1);omega
  ·exact Nat.le_refl _
def cf(xs:List Int)(p:Nat):Nat:=if ax (xs.getD p 0)=0 then 1 else fp (xs.drop p) (ax (xs.getD p 0))
theorem eF(xs:List Int)(p:Nat):1<=cf xs p:=by
 unfold cf
 split
 ·exact Nat.le_refl _
 ·exact zk _ _ _ _
theorem kS(xs:List Int)(p:Nat)(hp:p<xs.length):p+cf xs p<=xs.length:=by
 unfold cf
 split
 ·omega
 ·have:=fD (xs.drop p) (ax (xs.getD p 0)) (by simp;omega);rw [List.length_drop] at this;omega
def cx(xs:List Int):Nat->Nat
 | 0=>0
 | k+1=>cx xs k+cf xs (cx xs k)
def bK(xs:List Int):Nat->List G5
 | 0=>[]
 | k+1=>bK xs k++[cO xs (cx xs k)]
theorem em(xs:List Int)(k:Nat):(bK xs k).length=k:=by
 induction k with
 | zero=>rfl
 | succ k ih=>simp [bK,ih]
theorem sb(xs:List Int){j k:Nat}(h:j<k):cx xs j<cx xs k:=by
 induction k with
 | zero=>omega
 | succ k ih =>
  have h1:=eF xs (cx xs k);show cx xs j<cx xs k+cf xs (cx xs k)
  rcases Nat.lt_or_ge j k with h | h
  ·have:=ih h;omega
  ·have:j=k:=by omega
   subst this;omega
theorem qm(xs:List Int){j k:Nat}(h:cx xs j=cx xs k):j=k:=by
 rcases Nat.lt_trichotomy j k with h1 | h1 | h1
 ·have:=sb xs h1;omega
 ·exact h1
 ·have:=sb xs h1;omega
theorem nj(xs:List Int)(k i:Nat)(h:i<k):(bK xs k)[i]? = some (cO xs (cx xs i)):=by
 induction k with
 | zero=>omega
 | succ k ih =>
  unfold bK
  rcases Nat.lt_or_ge i k with h1 | h1
  ·rw [List.getElem?_append_left (by rw [em];exact h1)];exact ih h1
  ·have:i=k:=by omega
   subst this;rw [List.getElem?_append_right (by rw [em];exact Nat.le_refl _),em];simp
def jG(g:G5):List Value:=[.int .i32 g.1,.int .i64 g.2.1,.int .i64 g.2.2.1,.int .i64 g.2.2.2.1,.bool g.2.2.2.2]
def aP(l:List G5):List Value:=l.flatMap jG
theorem mh(l:List G5):(aP l).length=5 * l.length:=by
 induction l with
 | nil=>rfl
 | cons q l ih=>simp only [aP,List.flatMap_cons,List.length_append,jG,List.length_cons,List.length_nil] at *;omega
theorem jH:∀ (l:List G5) (i:Nat) (h:i<l.length),(aP l)[i * 5]? = some (.int .i32 l[i].1)/\(aP l)[i * 5+1]? = some (.int .i64 l[i].2.1)/\(aP l)[i * 5+2]? = some (.int .i64 l[i].2.2.1)/\(aP l)[i * 5+3]? = some (.int .i64 l[i].2.2.2.1)/\(aP l)[i * 5+4]? = some (.bool l[i].2.2.2.2)
 | [],i,h=>absurd h (Nat.not_lt_zero _)
 | q :: l,0,_=>⟨rfl,rfl,rfl,rfl,rfl⟩
 | q :: l,i+1,h=>by
  have:=jH l i (by simpa using h);rw [show (i+1) * 5=i * 5+5 by omega,show i * 5+5+1=i * 5+1+5 by omega,show i * 5+5+2=i * 5+2+5 by omega,show i * 5+5+3=i * 5+3+5 by omega,show i * 5+5+4=i * 5+4+5 by omega]
  simpa [aP,jG] using this
theorem uq(xs:List Int)(k:Nat):aP (bK xs (k+1))=aP (bK xs k)++jG (cO xs (cx xs k)):=by
 unfold aP;rw [show bK xs (k+1)=bK xs k++[cO xs (cx xs k)] from rfl,List.flatMap_append,List.flatMap_cons,List.flatMap_nil,List.append_nil]
def yH(w:World)(v:Value)(l:List G5):Prop:=∃ ao cap,v=.slice ao l.length cap/\∀ i (h:i<l.length),∃ b off,ao=some ⟨b,off,none⟩/\b<w.heap.size /\
 w.cell? ⟨b,off+i * 5,none⟩=some (.int .i32 l[i].1)/\w.cell? ⟨b,off+i * 5+1,none⟩=some (.int .i64 l[i].2.1)/\w.cell? ⟨b,off+i * 5+2,none⟩=some (.int .i64 l[i].2.2.1)/\w.cell? ⟨b,off+i * 5+3,none⟩=some (.int .i64 l[i].2.2.2.1)/\w.cell? ⟨b,off+i * 5+4,none⟩=some (.bool l[i].2.2.2.2)
theorem mi{w:World}{B e:Nat}{v:Value}{n:Nat}{l:List G5}(h:w.ownsRow B e 5 v n (aP l)):yH w v l:=by
 have hl:l.length=n:=by have:=h.1;rw [mh] at this;omega
 subst hl
 rcases h.2 with ⟨rfl,hn⟩ | ⟨g,cap,cur,rfl,hb,hg,h1,h2,h3,h4⟩
 ·have:l=[]:=List.eq_nil_of_length_eq_zero hn;subst this;exact ⟨none,0,rfl,fun i hi=>by simp at hi⟩
 ·refine ⟨some ⟨g,0,none⟩,cap,rfl,fun i hi=>⟨g,0,rfl,(Array.getElem?_eq_some_iff.1 hg).1,?_⟩⟩;obtain ⟨k0,k1,k2,k3,k4⟩:=jH l i hi;have c0:=h.cells (g:=g) rfl _ _ k0;have c1:=h.cells (g:=g) rfl _ _ k1;have c2:=h.cells (g:=g) rfl _ _ k2;have c3:=h.cells (g:=g) rfl _ _ k3;have c4:=h.cells (g:=g) rfl _ _ k4;rw [Addr.add_lit] at c0 c1 c2 c3 c4;simp only [Nat.zero_add] at *;exact ⟨c0,c1,c2,c3,c4⟩
theorem cX{P:Program}(w0:World){ops:Array Oper}{rest:List Oper}{o:Oper}{a:Act}{Q:Exit->Act->World->Prop}(hgd:o.guard=none)(s x:Operand)(t:TypeId)
  (ho:o.op=.call { callee:=.builtin .append,args:=#[s,x],argTypes:=#[t,t] })
  (base:Nat) (e:TypeId) (z:Value) (size bytes:Nat) (ht:P.underlying t=some (.slice e)) (BN:(P.info? e).map (fun i=>(i.zero,i.size,i.bytes))=some (some z,size,bytes)) (hzs:z.cells.size=size) (hsz:0<size)
  (v:Value) (n:Nat) (xs:List Value) (hs:a.eval s=v) (hown:w0.ownsRow base e size v n xs)
  (C:List Value) (m c N:Nat) (hN:w0.heap.size=N) (hx:a.eval x=.slice (some ⟨N,0,none⟩) m c) (hl:C.length=m * size) (h1:∀ u ∈ C,u.oneCell'=true)
  (hbytes:(n+m) * bytes<=140737488355328) (hb0:n+m<=140737488355328) (hbase:base<=w0.heap.size)
  (h:∀ v' w',w'.ownsRow base e size v' (n+m) (xs++C)->Below base w0 w'->(∀ g,g<w0.heap.size->v.ownBlock≠some g->w'.heap[g]? = w0.heap[g]?)->wpList P ops Q rest (a.put o.dst v') w') :
  wpList P ops Q (o :: rest) a (w0.alloc (.cells C.toArray e)):=by
 subst hN;obtain ⟨i0,hi,hz0,hz1,hz2⟩:=info_parts BN;refine wpList_append_own _ hgd s x t ho base e i0 z size bytes ht hi hz0 hz1 hz2 hzs hsz v n xs hs (hown.alloc _) ⟨w0.heap.size,0,none⟩ m c C hx (by omega) (hO w0 C e) h1 (by unfold maxLen;omega) hbytes (by simp;omega) ?_;intro v' w' hown' hgrow _;refine h v' w' hown' (((Below.refl base w0).alloc hbase _).grown hgrow (by simp;omega) fun k hk=>((hown.alloc (.cells C.toArray e)).lt k hk).1) fun g hg hne=>?_
 exact (hgrow.block g (by simp;omega) (fun e=>hne e.symm)).trans ((zI w0 (.cells C.toArray e)).block g hg)
theorem yB(xs:List Int)(lead:Int)(f m:Nat):∀ j,m<=j->j<goF xs lead f m->okB xs j=true:=by
 induction f generalizing m with
 | zero=>intro j h1 h2;have:goF xs lead 0 m=m:=rfl;omega
 | succ f ih =>
  intro j h1 h2;unfold goF at h2
  split at h2
  ·rename_i h
   rcases Nat.lt_or_ge m j with h3 | h3
   ·exact ih (m+1) j h3 h2
   ·have:j=m:=by omega
    subst this;exact h.2.2
  ·omega
theorem sd{xs:List Int}(h:okB xs 1=true):lo2 (xs.getD 0 0)<=xs.getD 1 0/\xs.getD 1 0<=hi2 (xs.getD 0 0)/\128<=xs.getD 1 0/\xs.getD 1 0<=191:=by
 unfold okB at h;simp only [Bool.and_eq_true,Bool.or_eq_true,decide_eq_true_eq,bne_self_eq_false,Bool.false_eq_true,false_or,tailB_true] at h;exact ⟨h.1.1,h.1.2,h.2.1,h.2.2⟩
theorem xA{xs:List Int}{m:Nat}(h:okB xs m=true):128<=xs.getD m 0/\xs.getD m 0<=191:=by
 unfold okB at h;simp only [Bool.and_eq_true,tailB_true] at h;exact h.2
def ef(xs:List Int)(k:Nat):List Int:=(bK xs k).map (·.1)
theorem io(xs:List Int)(k:Nat):ef xs (k+1)=ef xs k++[(cO xs (cx xs k)).1]:=by
 unfold ef;rw [show bK xs (k+1)=bK xs k++[cO xs (cx xs k)] from rfl,List.map_append]
 rfl
def ql(xs:List Int)(k:Nat):G5:=if k=0 then (0,0,0,0,false) else cO xs (cx xs (k - 1))
def ni(xs:List Int)(k:Nat):Int:=if (ql xs k).2.2.2.2=true/\1<ax (xs.getD (cx xs (k - 1)) 0) then (ql xs k).2.2.1 else 0
def DecAt(w:World)(g:Nat)(l b h:Int):Prop:=Has w g [.int .u8 l,.int .i32 b,.int .i64 h] 138
theorem DecAt.zero{w:World}{g:Nat}{l b h:Int}(hd:DecAt w g l b h):DecAt (((w.setCell ⟨g,0,none⟩ (.int .u8 0)).setCell ⟨g,1,none⟩ (.int .i32 0)).setCell ⟨g,2,none⟩ (.int .i64 0)) g 0 0 0 :=
 ((hd.set 0 _).set 1 _).set 2 _
def bO(l h x:Int):Bool:=if 1<h then fC x else decide (lo2 l<=x) && decide (x<=hi2 l)
def be(x:Int):List Int:=if ax x=0 then [65533] else if ax x=1 then [x] else []
def bB(x:Int):Int:=if 2<=ax x then x else 0
def aX(x:Int):Int:=if 2<=ax x then bY x else 0
def bC(x:Int):Int:=if 2<=ax x then 1 else 0
theorem Tryz.info21:(Tryz.prog.info? 21).map (fun i=>(i.zero,i.size,i.bytes))=some (some (.int .i32 0),1,4):=by kernel_rfl
def mxD(L h:Int):Int:=if L=2 then 32 else if L=3 then (if h=1 then 16 else 1024) else (if h=1 then 8 else if h=2 then 512 else 32768)
def wfD(l b h:Int):Prop:=(l=0/\b=0/\h=0)\/(0<=l/\l<=255/\1<=h/\h<ax l/\0<=b/\b<mxD (ax l) h)
theorem y8(L h:Int):mxD L h<=32768:=by unfold mxD;split <;> (try split) <;> (try split) <;> omega
theorem pX(l:Int):0<=ax l/\ax l<=4:=by unfold ax;omega
def dM(l b h x:Int):List Int:=if h=0 then be x else if bO l h x=true then (if h+1<ax l then [] else [b * 64+x % 64]) else 65533 :: be x
def dV(l h x:Int):Int:=if h=0 then bB x else if bO l h x=true then (if h+1<ax l then l else 0) else bB x
def cV(l b h x:Int):Int:=if h=0 then aX x else if bO l h x=true then (if h+1<ax l then b * 64+x % 64 else 0) else aX x
def dW(l h x:Int):Int:=if h=0 then bC x else if bO l h x=true then (if h+1<ax l then h+1 else 0) else bC x
theorem m6(l b h x:Int):(dM l b h x).length<=2:=by
 have:(be x).length<=1:=by unfold be;split <;> (try split) <;> simp
 unfold dM
 split
 ·omega
 ·split
  ·split <;> simp
  ·simp;omega
theorem pY(x:Int)(x0:0<=x)(x1:x<=255):wfD (bB x) (aX x) (bC x):=by
 unfold wfD bB aX bC
 by_cases h:2<=ax x
 ·rw [if_pos h,if_pos h,if_pos h];refine .inr ⟨x0,x1,by omega,by omega,?_⟩
  rcases bp x with ⟨h2,hs⟩ | ⟨h2,h3,hs⟩ | ⟨h2,h3,hs⟩ | ⟨h2,h3,hs⟩ | ⟨h2,h3,hs⟩ | ⟨h2,hs⟩
  all_goals (rw [hs] at h;try omega)
  all_goals (unfold bY mxD;rw [hs];simp;omega)
 ·rw [if_neg h,if_neg h,if_neg h];exact .inl ⟨rfl,rfl,rfl⟩
theorem yo(l b h x:Int)(hw:wfD l b h)(x0:0<=x)(x1:x<=255):wfD (dV l h x) (cV l b h x) (dW l h x):=by
 rcases hw with ⟨rfl,rfl,rfl⟩ | ⟨l0,l1,h0,h1,b0,b1⟩
 ·exact pY x x0 x1
 ·have hne:¬ h=0:=by omega
  unfold dV cV dW;rw [if_neg hne,if_neg hne,if_neg hne]
  by_cases hx:bO l h x=true
  ·rw [if_pos hx,if_pos hx,if_pos hx]
   by_cases hm:h+1<ax l
   ·rw [if_pos hm,if_pos hm,if_pos hm];refine .inr ⟨l0,l1,by omega,hm,by omega,?_⟩;have hl4:=pX l;unfold mxD at b1 ⊢;obtain h3 | h4:ax l=3\/ax l=4:=by omega
    ·obtain rfl:h=1:=by omega
     rw [h3] at b1 ⊢
     simp at b1 ⊢;omega
    ·rw [h4] at b1 ⊢;obtain rfl | rfl:h=1\/h=2:=by omega
     all_goals (simp at b1 ⊢;omega)
   ·rw [if_neg hm,if_neg hm,if_neg hm];exact .inl ⟨rfl,rfl,rfl⟩
  ·rw [if_neg hx,if_neg hx,if_neg hx];exact pY x x0 x1
abbrev St:=Int × Int × Int
def ch(s:St)(x:Int):St:=(dV s.1 s.2.2 x,cV s.1 s.2.1 s.2.2 x,dW s.1 s.2.2 x)
def cW(s:St)(x:Int):List Int:=dM s.1 s.2.1 s.2.2 x
def aF(s:St)(p:List Int):St:=p.foldl ch s
def aA:St->List Int->List Int
 | _,[]=>[]
 | s,x :: p=>cW s x++aA (ch s x) p
theorem iB(s:St)(p q:List Int):aA s (p++q)=aA s p++aA (aF s p) q:=by
 induction p generalizing s with
 | nil=>rfl
 | cons x p ih=>simp [aA,aF,ih]
theorem iC(s:St)(p q:List Int):aF s (p++q)=aF (aF s p) q:=by simp [aF]
theorem iT(s:St)(p:List Int):(aA s p).length<=2 * p.length:=by
 induction p generalizing s with
 | nil=>simp [aA]
 | cons x p ih=>have:=ih (ch s x);have:=m6 s.1 s.2.1 s.2.2 x;simp [aA,cW];omega
def wfS(s:St):Prop:=wfD s.1 s.2.1 s.2.2
theorem wR(s:St)(x:Int)(h:wfS s)(x0:0<=x)(x1:x<=255):wfS (ch s x):=yo _ _ _ _ h x0 x1
theorem jx(s:St)(p:List Int)(h:wfS s)(hp:∀ x ∈ p,0<=x/\x<=255):wfS (aF s p):=by
 induction p generalizing s with
 | nil=>exact h
 | cons x p ih =>
  have:=hp x (by simp);exact ih (ch s x) (wR s x h this.1 this.2) (fun y hy=>hp y (by simp [hy]))
theorem pZ:wfS (0,0,0):=.inl ⟨rfl,rfl,rfl⟩
theorem lP(xs:List Int)(k:Nat)(h:k<xs.length):xs.take (k+1)=xs.take k++[xs.getD k 0]:=by
 rw [List.take_succ_eq_append_getElem h]
 simp [List.getD,List.getElem?_eq_getElem h]
theorem fA(s:St)(p:List Int)(k:Nat)(h:k<p.length):aA s (p.take (k+1))=aA s (p.take k)++cW (aF s (p.take k)) (p.getD k 0):=by
 rw [lP p k h,iB]
 simp [aA]
theorem fB(s:St)(p:List Int)(k:Nat)(h:k<p.length):aF s (p.take (k+1))=ch (aF s (p.take k)) (p.getD k 0):=by
 rw [lP p k h,iC]
 rfl
def whF(b:List Int)(v:Int):Nat->Int
 | 0=>v
 | s+1=>whF b v s * 64+b.getD (s+1) 0 - 128
def cB(b:List Int):Int:=whF b (b.getD 0 0 - mkN b.length) (b.length - 1)
def jC(x:Int):List Int × List Int:=if 1<eE [x] then ([],[x]) else if 0<eE [x] then ([cB [x]],[]) else ([65533],[])
def iu(H:List Int)(x:Int):List Int × List Int :=
 if H=[] then jC x else if ((H++[x]).length:Int)<eE (H++[x]) then ([],H++[x]) else if 0<eE (H++[x]) then ([cB (H++[x])],[]) else (65533 :: (jC x).1,(jC x).2)
inductive Rel:List Int->St->Prop
 | none:Rel [] (0,0,0)
 | one (l:Int) (h:2<=ax l) (h0:0<=l) (h1:l<=255):Rel [l] (l,bY l,1)
 | two (l y:Int) (h:3<=ax l) (h0:0<=l) (h1:l<=255) (CF:lo2 l<=y) (FE:y<=hi2 l):Rel [l,y] (l,bY l * 64+y % 64,2)
 | three (l y z:Int) (h:4<=ax l) (h0:0<=l) (h1:l<=255) (CF:lo2 l<=y) (FE:y<=hi2 l) (hz0:128<=z) (hz1:z<=191):Rel [l,y,z] (l,(bY l * 64+y % 64) * 64+z % 64,3)
theorem zg(x:Int)(x0:0<=x)(x1:x<=255):eE [x]=ax x:=by
 unfold eE;simp only [p11 x x0,p12,p13,p14,List.length_cons,List.length_nil]
 rcases bp x with ⟨h2,hs⟩ | ⟨h2,h3,hs⟩ | ⟨h2,h3,hs⟩ | ⟨h2,h3,hs⟩ | ⟨h2,h3,hs⟩ | ⟨h2,hs⟩ <;> rw [hs] <;> omega
theorem zx(l x:Int)(h:2<=ax l)(h0:0<=l):eE [l,x]=if lo2 l<=x/\x<=hi2 l then ax l else 0:=by
 unfold eE lo2 hi2;simp only [p22,p23,p24,List.length_cons,List.length_nil]
 rcases bp l with ⟨h2,hs⟩ | ⟨h2,h3,hs⟩ | ⟨h2,h3,hs⟩ | ⟨h2,h3,hs⟩ | ⟨h2,h3,hs⟩ | ⟨h2,hs⟩ <;> rw [hs] <;> rw [hs] at h <;> omega
theorem zy(l y x:Int)(h:3<=ax l)(h0:0<=l)(CF:lo2 l<=y)(FE:y<=hi2 l):eE [l,y,x]=if 128<=x/\x<=191 then ax l else 0:=by
 unfold eE;unfold lo2 at CF;unfold hi2 at FE;simp only [p33,p34,List.length_cons,List.length_nil]
 rcases bp l with ⟨h2,hs⟩ | ⟨h2,h3,hs⟩ | ⟨h2,h3,hs⟩ | ⟨h2,h3,hs⟩ | ⟨h2,h3,hs⟩ | ⟨h2,hs⟩ <;> rw [hs] <;> rw [hs] at h CF FE <;> omega
theorem zz(l y z x:Int)(h:4<=ax l)(h0:0<=l)(CF:lo2 l<=y)(FE:y<=hi2 l)(hz0:128<=z)(hz1:z<=191):eE [l,y,z,x]=if 128<=x/\x<=191 then ax l else 0:=by
 unfold eE;unfold lo2 at CF;unfold hi2 at FE;simp only [p44,List.length_cons,List.length_nil]
 rcases bp l with ⟨h2,hs⟩ | ⟨h2,h3,hs⟩ | ⟨h2,h3,hs⟩ | ⟨h2,h3,hs⟩ | ⟨h2,h3,hs⟩ | ⟨h2,hs⟩ <;> rw [hs] <;> rw [hs] at h CF FE <;> omega
theorem xl(x:Int)(x0:0<=x)(x1:x<=255):(jC x).1=be x/\Rel (jC x).2 (bB x,aX x,bC x):=by
 unfold jC;rw [zg x x0 x1];unfold be bB aX bC
 rcases bp x with ⟨h2,hs⟩ | ⟨h2,h3,hs⟩ | ⟨h2,h3,hs⟩ | ⟨h2,h3,hs⟩ | ⟨h2,h3,hs⟩ | ⟨h2,hs⟩
 ·simp [hs,cB,whF,mkN];exact Rel.none
 ·simp [hs];exact Rel.none
 ·simp [hs];exact Rel.one x (by omega) x0 x1
 ·simp [hs];exact Rel.one x (by omega) x0 x1
 ·simp [hs];exact Rel.one x (by omega) x0 x1
 ·simp [hs];exact Rel.none
theorem fT{l y:Int}(h:2<=ax l)(h0:lo2 l<=y)(h1:y<=hi2 l):128<=y/\y<=191:=by
 unfold lo2 at h0;unfold hi2 at h1;omega
theorem jD(l:Int):ax l<=4:=by unfold ax;omega
theorem xm{H:List Int}{s:St}(hr:Rel H s)(x:Int)(x0:0<=x)(x1:x<=255):(iu H x).1=cW s x/\Rel (iu H x).2 (ch s x):=by
 have hz:=xl x x0 x1
 cases hr with
 | none =>
  unfold iu cW ch dM dV cV dW
  simpa using hz
 | one l h h0 h1 =>
  have hb:=zx l x h h0;have hle:=jD l;unfold iu cW ch dM dV cV dW;simp only [List.cons_append,List.nil_append,List.cons_ne_nil,if_false,hb,List.length_cons,List.length_nil];have hn:bO l 1 x=(decide (lo2 l<=x) && decide (x<=hi2 l)):=by unfold bO;simp
  by_cases hx:lo2 l<=x/\x<=hi2 l
  ·have Ex:bO l 1 x=true:=by rw [hn];simp [hx.1,hx.2]
   obtain ⟨e0,e1⟩:=fT h hx.1 hx.2;rw [if_pos hx,Ex]
   by_cases h2:ax l=2
   ·rw [h2]
    simp [cB,whF,mkN]
    refine ⟨?_,Rel.none⟩;unfold bY;rw [h2]
    simp
    unfold ax at h2;omega
   ·simp [show (2:Int)<ax l by omega]
    exact Rel.two l x (by omega) h0 h1 hx.1 hx.2
  ·have Ex:bO l 1 x=false:=by rw [hn];by_cases hq:lo2 l<=x <;> simp [hq] <;> omega
   rw [if_neg hx,Ex]
   simp
   exact hz
 | two l y h h0 h1 CF FE =>
  have hb:=zy l y x h h0 CF FE;have hle:=jD l;have hyy:=fT (by omega) CF FE;unfold iu cW ch dM dV cV dW;simp only [List.cons_append,List.nil_append,List.cons_ne_nil,if_false,hb,List.length_cons,List.length_nil];have hn:bO l 2 x=fC x:=by unfold bO;simp
  by_cases hx:128<=x/\x<=191
  ·have Ex:bO l 2 x=true:=by rw [hn,tailB_true];exact hx
   rw [if_pos hx,Ex]
   by_cases h2:ax l=3
   ·rw [h2]
    simp [cB,whF,mkN]
    refine ⟨?_,Rel.none⟩;unfold bY;rw [h2]
    simp
    unfold ax at h2;omega
   ·simp [show (3:Int)<ax l by omega]
    exact Rel.three l y x (by omega) h0 h1 CF FE hx.1 hx.2
  ·have Ex:bO l 2 x=false:=by rw [hn];cases ht:fC x with | false=>rfl | true=>exact absurd (tailB_true.1 ht) hx
   rw [if_neg hx,Ex]
   simp
   exact hz
 | three l y z h h0 h1 CF FE hz0 hz1 =>
  have hb:=zz l y z x h h0 CF FE hz0 hz1;have hle:=jD l;have hyy:=fT (by omega) CF FE;unfold iu cW ch dM dV cV dW;simp only [List.cons_append,List.nil_append,List.cons_ne_nil,if_false,hb,List.length_cons,List.length_nil];have hn:bO l 3 x=fC x:=by unfold bO;simp
  have h2:ax l=4:=by omega
  by_cases hx:128<=x/\x<=191
  ·have Ex:bO l 3 x=true:=by rw [hn,tailB_true];exact hx
   rw [if_pos hx,Ex,h2]
   simp [cB,whF,mkN]
   refine ⟨?_,Rel.none⟩;unfold bY;rw [h2]
   simp
   unfold ax at h2;omega
  ·have Ex:bO l 3 x=false:=by rw [hn];cases ht:fC x with | false=>rfl | true=>exact absurd (tailB_true.1 ht) hx
   rw [if_neg hx,Ex]
   simp
   exact hz
theorem jE{H:List Int}{s:St}(hr:Rel H s):(H.length:Int)=s.2.2/\H.length<=3:=by cases hr <;> simp
theorem um{H:List Int}{s:St}(hr:Rel H s):∀ i,i<H.length->0<=H.getD i 0/\H.getD i 0<=255:=by
 intro i hi
 cases hr with
 | none=>simp at hi
 | one l h h0 h1=>match i,hi with | 0,_=>exact ⟨h0,h1⟩
 | two l y h h0 h1 CF FE =>
  have:=fT (by omega) CF FE
  match i,hi with
  | 0,_=>exact ⟨h0,h1⟩
  | 1,_=>show 0<=y/\y<=255;omega
 | three l y z h h0 h1 CF FE hz0 hz1 =>
  have:=fT (by omega) CF FE
  match i,hi with
  | 0,_=>exact ⟨h0,h1⟩
  | 1,_=>show 0<=y/\y<=255;omega
  | 2,_=>show 0<=z/\z<=255;omega
theorem dN(xs:List Int)(p j:Nat):(xs.drop p).getD j 0=xs.getD (p+j) 0:=by simp [List.getD]
theorem r9(ys:List Int)(lead:Int):∀ (f m:Nat),lead<=m+f->goF ys lead f m<lead->goF ys lead f m<ys.length->okB ys (goF ys lead f m)=false
 | 0,m,hf,h,_=>by have:goF ys lead 0 m=m:=rfl;omega
 | f+1,m,hf,h,hl=>by
  unfold goF at h hl ⊢
  by_cases hc:(m:Int)<lead/\m<ys.length/\okB ys m=true
  ·rw [if_pos hc] at h hl ⊢;exact r9 ys lead f (m+1) (by omega) h hl
  ·rw [if_neg hc] at h hl ⊢
   cases ho:okB ys m with
   | false=>rfl
   | true=>exact absurd ⟨h,hl,ho⟩ hc
theorem qi(ys:List Int)(h:(fp ys (ax (ys.getD 0 0)):Int)<ax (ys.getD 0 0))(hl:fp ys (ax (ys.getD 0 0))<ys.length):okB ys (fp ys (ax (ys.getD 0 0)))=false :=
 r9 ys _ 4 1 (by have:=jD (ys.getD 0 0);omega) h hl
theorem kR(ys:List Int)(lead:Int)(j:Nat)(h1:1<=j)(h2:j<fp ys lead):okB ys j=true:=yB ys lead 4 1 j h1 h2
theorem nd(ys:List Int)(n:Nat):∀ m,m<n->eT (ys.take n) m=eT ys m
 | 0,h=>by
  show bY ((ys.take n).getD 0 0)=bY (ys.getD 0 0);rw [show (ys.take n).getD 0 0=ys.getD 0 0 by simp [List.getD,List.getElem?_take,h]]
 | m+1,h=>by
  show eT (ys.take n) m * 64+(ys.take n).getD (m+1) 0 % 64=eT ys m * 64+ys.getD (m+1) 0 % 64;rw [nd ys n m (by omega),show (ys.take n).getD (m+1) 0=ys.getD (m+1) 0 by simp [List.getD,List.getElem?_take,h]]
theorem jF(ys:List Int)(m:Nat)(hm:1<=m)(h:2<=ax (ys.getD 0 0)):bO (ys.getD 0 0) m (ys.getD m 0)=okB ys m:=by
 unfold bO okB
 by_cases h1:m=1
 ·subst h1;rw [if_neg (by decide)]
  by_cases hx:lo2 (ys.getD 0 0)<=ys.getD 1 0/\ys.getD 1 0<=hi2 (ys.getD 0 0)
  ·rw [tailB_true.2 (fT h hx.1 hx.2),decide_eq_true hx.1,decide_eq_true hx.2];rfl
  ·have hb:(decide (lo2 (ys.getD 0 0)<=ys.getD 1 0) && decide (ys.getD 1 0<=hi2 (ys.getD 0 0)))=false:=by
    by_cases hq:lo2 (ys.getD 0 0)<=ys.getD 1 0
    ·rw [decide_eq_true hq,decide_eq_false (fun h=>hx ⟨hq,h⟩)];rfl
    ·rw [decide_eq_false hq];rfl
   rw [hb];rfl
 ·rw [if_pos (by omega),show (m != 1)=true by simp [h1]];rfl
theorem qj(ys:List Int)(j:Nat)(h:2<=ax (ys.getD 0 0))(hj:1<=j)(hn:j<fp ys (ax (ys.getD 0 0))) :
  cW (ys.getD 0 0,eT ys (j - 1),(j:Int)) (ys.getD j 0)=(if (j:Int)+1<ax (ys.getD 0 0) then [] else [eT ys j]) /\
  ch (ys.getD 0 0,eT ys (j - 1),(j:Int)) (ys.getD j 0)=(if (j:Int)+1<ax (ys.getD 0 0) then (ys.getD 0 0,eT ys j,(j:Int)+1) else (0,0,0)):=by
 have ho:bO (ys.getD 0 0) j (ys.getD j 0)=true:=by rw [jF ys j hj h];exact kR ys _ j hj hn
 have hv:eT ys j=eT ys (j - 1) * 64+ys.getD j 0 % 64:=by
  obtain ⟨i,rfl⟩ : ∃ i,j=i+1:=⟨j - 1,by omega⟩
  rfl
 have h0:¬ ((j:Int)=0):=by omega
 unfold cW ch dM dV cV dW;simp only [if_neg h0,ho,if_true,hv]
 by_cases hl:(j:Int)+1<ax (ys.getD 0 0)
 ·simp only [if_pos hl];exact ⟨trivial,trivial⟩
 ·simp only [if_neg hl];exact ⟨trivial,trivial⟩
theorem ng(ys:List Int)(h:ax (ys.getD 0 0)≠0)(hy:0<ys.length):∀ j,1<=j->j<=fp ys (ax (ys.getD 0 0)) ->
  aA (0,0,0) (ys.take j)=(if (j:Int)<ax (ys.getD 0 0) then [] else [eT ys (j - 1)])/\aF (0,0,0) (ys.take j)=(if (j:Int)<ax (ys.getD 0 0) then (ys.getD 0 0,eT ys (j - 1),(j:Int)) else (0,0,0))
 | 0,h1,_=>by omega
 | 1,_,_=>by
  have ht:ys.take 1=[ys.getD 0 0]:=by cases ys with | nil=>simp at hy | cons y ys=>simp
  rw [ht];show be (ys.getD 0 0)++[]=(if ((1:Nat):Int)<ax (ys.getD 0 0) then [] else [bY (ys.getD 0 0)])/\(bB (ys.getD 0 0),aX (ys.getD 0 0),bC (ys.getD 0 0))=(if ((1:Nat):Int)<ax (ys.getD 0 0) then (ys.getD 0 0,bY (ys.getD 0 0),((1:Nat):Int)) else (0,0,0));generalize ys.getD 0 0=y at h;unfold be bB aX bC
  rcases bp y with ⟨h2,hs⟩ | ⟨h2,h3,hs⟩ | ⟨h2,h3,hs⟩ | ⟨h2,h3,hs⟩ | ⟨h2,h3,hs⟩ | ⟨h2,hs⟩
  ·have hq:bY y=y:=by unfold bY;rw [hs];simp
   rw [hs,hq];simp
  ·exact absurd hs h
  ·rw [hs];simp
  ·rw [hs];simp
  ·rw [hs];simp
  ·exact absurd hs h
 | j+2,_,hn=>by
  obtain ⟨i1,i2⟩:=ng ys h hy (j+1) (by omega) (by omega);have hbl:=fD ys (ax (ys.getD 0 0)) hy;have hL:((j+1:Nat):Int)<ax (ys.getD 0 0):=by omega
  rw [if_pos hL] at i1 i2;obtain ⟨m1,m2⟩:=qj ys (j+1) (by omega) (by omega) (by omega);rw [show ys.take (j+2)=ys.take (j+1+1) from rfl,fA (0,0,0) ys (j+1) (by omega),fB (0,0,0) ys (j+1) (by omega),i1,i2,m1,m2,List.nil_append];exact ⟨rfl,rfl⟩
def nK(ys:List Int):Nat:=if ax (ys.getD 0 0)=0 then 0 else fp ys (ax (ys.getD 0 0))
theorem xu(ys:List Int)(hr:∀ i,i<ys.length->0<=ys.getD i 0/\ys.getD i 0<=255)(j:Nat)(h:(j:Int)<ax (ys.getD 0 0))(hj:j<ys.length)(Bn:∀ i,1<=i->i<j->okB ys i=true) :
  eE (ys.take (j+1))=if j=0\/okB ys j=true then ax (ys.getD 0 0) else 0:=by
 have hle:=jD (ys.getD 0 0);obtain ⟨r0,r1⟩:=hr 0 (by omega)
 match j,h,hj,Bn with
 | 0,h,hj,_ =>
  rw [if_pos (.inl rfl),show ys.take (0+1)=[ys.getD 0 0] by cases ys with | nil=>simp at hj | cons y ys=>simp];exact zg _ r0 r1
 | 1,h,hj,_ =>
  have e:ys.take (1+1)=[ys.getD 0 0,ys.getD 1 0]:=by
   match ys,hj with
   | a :: b :: t,_=>simp
  have hn:=jF ys 1 (by omega) (by omega);unfold bO at hn;rw [if_neg (by decide)] at hn;rw [e,zx _ _ (by omega) r0,<-hn]
  by_cases hx:lo2 (ys.getD 0 0)<=ys.getD 1 0/\ys.getD 1 0<=hi2 (ys.getD 0 0)
  ·rw [if_pos hx,if_pos (.inr (by rw [decide_eq_true hx.1,decide_eq_true hx.2];rfl))]
  ·rw [if_neg hx,if_neg (by
    rintro (h1 | h1)
    ·omega
    ·rw [Bool.and_eq_true,decide_eq_true_eq,decide_eq_true_eq] at h1;exact hx h1)]
 | 2,h,hj,Bn =>
  have e:ys.take (2+1)=[ys.getD 0 0,ys.getD 1 0,ys.getD 2 0]:=by
   match ys,hj with
   | a :: b :: c :: t,_=>simp
  have h1:=sd (Bn 1 (by omega) (by omega));have hn:=jF ys 2 (by omega) (by omega);unfold bO at hn;rw [if_pos (by decide)] at hn;rw [e,zy _ _ _ (by omega) r0 h1.1 h1.2.1,<-hn]
  by_cases hx:128<=ys.getD 2 0/\ys.getD 2 0<=191
  ·rw [if_pos hx,if_pos (.inr (tailB_true.2 hx))]
  ·rw [if_neg hx,if_neg (by simp only [tailB_true];omega)]
 | 3,h,hj,Bn =>
  have e:ys.take (3+1)=[ys.getD 0 0,ys.getD 1 0,ys.getD 2 0,ys.getD 3 0]:=by
   match ys,hj with
   | a :: b :: c :: d :: t,_=>simp
  have h1:=sd (Bn 1 (by omega) (by omega));have h2:=xA (Bn 2 (by omega) (by omega));have hn:=jF ys 3 (by omega) (by omega);unfold bO at hn;rw [if_pos (by decide)] at hn;rw [e,zz _ _ _ _ (by omega) r0 h1.1 h1.2.1 h2.1 h2.2,<-hn]
  by_cases hx:128<=ys.getD 3 0/\ys.getD 3 0<=191
  ·rw [if_pos hx,if_pos (.inr (tailB_true.2 hx))]
  ·rw [if_neg hx,if_neg (by simp only [tailB_true];omega)]
 | j+4,h,_,_=>omega
theorem zA(ys:List Int)(hr:∀ i,i<ys.length->0<=ys.getD i 0/\ys.getD i 0<=255)(hy:0<ys.length)(k:Nat)(hk:k<nK ys) :
  k<ys.length/\eE (ys.take (k+1))=ax (ys.getD 0 0)/\0<ax (ys.getD 0 0)/\(ax (ys.getD 0 0)=(k:Int)+1->nK ys=k+1):=by
 unfold nK at hk ⊢;have hbl:=fD ys (ax (ys.getD 0 0)) hy;have hlc:=bp (ys.getD 0 0)
 by_cases h0:ax (ys.getD 0 0)=0
 ·rw [if_pos h0] at hk;omega
 ·rw [if_neg h0] at hk ⊢;have Od:(k:Int)<ax (ys.getD 0 0):=by omega
  refine ⟨by omega,?_,by omega,fun h=>by omega⟩;rw [xu ys hr k Od (by omega) (fun i h1 h2=>kR ys (ax (ys.getD 0 0)) i h1 (by omega))]
  by_cases DW:k=0
  ·rw [if_pos (.inl DW)]
  ·rw [if_pos (.inr (kR ys _ k (by omega) hk))]
theorem zi(ys:List Int)(hr:∀ i,i<ys.length->0<=ys.getD i 0/\ys.getD i 0<=255)(hy:0<ys.length)(hk:nK ys<ys.length)(hn:nK ys=0\/ax (ys.getD 0 0)≠nK ys):eE (ys.take (nK ys+1))=0:=by
 unfold nK at hk hn ⊢;have hbl:=fD ys (ax (ys.getD 0 0)) hy;have hlc:=bp (ys.getD 0 0)
 by_cases h0:ax (ys.getD 0 0)=0
 ·rw [if_pos h0] at hk hn ⊢;rw [show ys.take (0+1)=[ys.getD 0 0] by cases ys with | nil=>simp at hy | cons y ys=>simp];obtain ⟨r0,r1⟩:=hr 0 hy;rw [zg _ r0 r1,h0]
 ·rw [if_neg h0] at hk hn ⊢;have Od:(fp ys (ax (ys.getD 0 0)):Int)<ax (ys.getD 0 0):=by omega
  rw [xu ys hr _ Od hk (fun i h1 h2=>kR ys _ i h1 h2),if_neg];rw [qi ys Od hk];rintro (h1 | h1)
  ·omega
  ·exact absurd h1 (by decide)
def opn(xs:List Int)(p:Nat):Prop:=ax (xs.getD p 0)≠0/\(cf xs p:Int)≠ax (xs.getD p 0)
theorem ke{xs:List Int}{p:Nat}(h:ax (xs.getD p 0)=0):cO xs p=(65533,(p:Int),1,(p:Int)+1,true)/\cf xs p=1:=by
 unfold cO cf;rw [if_pos h,if_pos h];exact ⟨rfl,rfl⟩
theorem gA{xs:List Int}{p:Nat}(h:ax (xs.getD p 0)≠0)(he:(cf xs p:Int)=ax (xs.getD p 0)):cO xs p=(eT (xs.drop p) (cf xs p - 1),(p:Int),(cf xs p:Int),(p:Int)+cf xs p,false):=by
 have hn:=eF xs p;unfold cf at he hn ⊢;unfold cO;rw [if_neg h] at he hn ⊢;rw [if_neg h,if_pos he,nd _ _ _ (by omega)]
theorem fU{xs:List Int}{p:Nat}(h:opn xs p):cO xs p=(65533,(p:Int),(cf xs p:Int),min ((p:Int)+cf xs p+1) xs.length,true):=by
 obtain ⟨h,he⟩:=h;unfold cf at he ⊢;unfold cO;rw [if_neg h] at he ⊢;rw [if_neg h,if_neg he]
theorem nh{xs:List Int}{p:Nat}(hp:p<xs.length)(h:opn xs p):2<=ax (xs.getD p 0)/\(cf xs p:Int)<ax (xs.getD p 0)/\cf xs p=fp (xs.drop p) (ax (xs.getD p 0)):=by
 obtain ⟨h,he⟩:=h;unfold cf at he ⊢;rw [if_neg h] at he ⊢;have hbl:=fD (xs.drop p) (ax (xs.getD p 0)) (by simp;omega);have hlc:=bp (xs.getD p 0);omega
inductive Pt (xs:List Int):Nat->Nat->St->Prop
 | clean (k q:Nat) (h:cx xs k=q) (hc:k=0\/¬ opn xs (cx xs (k - 1))):Pt xs q k (0,0,0)
 | opened (k q p:Nat) (hp:cx xs k=p) (hq:cx xs (k+1)=q) (hpl:p<xs.length) (ho:opn xs p):Pt xs q k (xs.getD p 0,eT (xs.drop p) (cf xs p - 1),(cf xs p:Int))
 | mid (k q p j:Nat) (hp:cx xs k=p) (hq:q=p+j) (hpl:p<xs.length) (h1:1<=j) (hj:j<cf xs p):Pt xs q k (xs.getD p 0,eT (xs.drop p) (j - 1),(j:Int))
theorem lX(xs:List Int)(k:Nat):cx xs (k+1)=cx xs k+cf xs (cx xs k):=rfl
def knG(xs:List Int)(i:Nat):Int:=(cO xs (cx xs i)).2.2.2.1
theorem qk(xs:List Int)(k q:Nat)(hq:cx xs k=q)(Kn:q<xs.length)(s:St)(pre:List Int)(hs:ch s (xs.getD q 0)=(bB (xs.getD q 0),aX (xs.getD q 0),bC (xs.getD q 0)))
  (ht:cW s (xs.getD q 0)=pre++be (xs.getD q 0)) :
  ∃ c',Pt xs (q+1) c' (ch s (xs.getD q 0))/\k<=c'/\ef xs c'=ef xs k++be (xs.getD q 0)/\∀ i,k<=i->i<c'->knG xs i=(q:Int)+1:=by
 rw [hs];have hlc:=bp (xs.getD q 0);have hle:=kS xs q Kn;have O1:=eF xs q;have CN:=io xs k;rw [hq] at CN;have Kb:=lX xs k;rw [hq] at Kb
 by_cases h0:ax (xs.getD q 0)=0
 ·obtain ⟨hp,hl⟩:=ke h0;have hb:(bB (xs.getD q 0),aX (xs.getD q 0),bC (xs.getD q 0))=(0,0,0):=by unfold bB aX bC;rw [h0];rfl
  rw [hb];rw [hp] at CN;refine ⟨k+1,Pt.clean (k+1) (q+1) (by omega) (.inr ?_),by omega,by rw [CN];unfold be;rw [if_pos h0],fun i h1 h2=>?_⟩
  ·rw [Nat.add_sub_cancel,hq];exact fun h=>h.1 h0
  ·obtain rfl:i=k:=by omega
   unfold knG;rw [hq,hp]
 ·have EK:(xs.drop q).getD 0 0=xs.getD q 0:=by rw [dN];rfl
  by_cases h1:ax (xs.getD q 0)=1
  ·have DL:cf xs q=1:=by
    have hbl:=fD (xs.drop q) (ax (xs.getD q 0)) (by simp;omega);unfold cf;rw [if_neg h0];omega
   have hp:=gA h0 (by rw [DL,h1];rfl);have hb:(bB (xs.getD q 0),aX (xs.getD q 0),bC (xs.getD q 0))=(0,0,0):=by unfold bB aX bC;rw [h1];rfl
   have hv:eT (xs.drop q) (cf xs q - 1)=xs.getD q 0:=by
    rw [DL];show bY ((xs.drop q).getD 0 0)=_;rw [EK];unfold bY;rw [h1];simp
   rw [hb];rw [hp,hv] at CN;refine ⟨k+1,Pt.clean (k+1) (q+1) (by omega) (.inr ?_),by omega,by rw [CN];unfold be;rw [if_neg h0,if_pos h1],fun i h2 h3=>?_⟩
   ·rw [Nat.add_sub_cancel,hq];exact fun h=>h.2 (by rw [DL,h1];rfl)
   ·obtain rfl:i=k:=by omega
    unfold knG;rw [hq,hp,DL];rfl
  ·have h2:2<=ax (xs.getD q 0):=by omega
   have hb:(bB (xs.getD q 0),aX (xs.getD q 0),bC (xs.getD q 0))=(xs.getD q 0,eT (xs.drop q) 0,1):=by
    unfold bB aX bC;rw [if_pos h2,if_pos h2,if_pos h2];show _=(_,bY ((xs.drop q).getD 0 0),_);rw [EK]
   have J6:be (xs.getD q 0)=[]:=by unfold be;rw [if_neg h0,if_neg h1]
   rw [hb,J6,List.append_nil]
   by_cases hn:cf xs q=1
   ·have ho:opn xs q:=⟨h0,by rw [hn];omega⟩;have:=Pt.opened (xs:=xs) k (q+1) q hq (by omega) Kn ho;rw [hn] at this;exact ⟨k,this,Nat.le_refl _,rfl,fun i h3 h4=>by omega⟩
   ·exact ⟨k,Pt.mid (xs:=xs) k (q+1) q 1 hq rfl Kn (Nat.le_refl _) (by omega),Nat.le_refl _,rfl,fun i h3 h4=>by omega⟩
theorem yy{xs:List Int}{q c:Nat}{s:St}(h:Pt xs q c s)(Kn:q<xs.length) :
  ∃ c',Pt xs (q+1) c' (ch s (xs.getD q 0))/\c<=c'/\ef xs c'=ef xs c++cW s (xs.getD q 0)/\∀ i,c<=i->i<c'->knG xs i=(q:Int)+1:=by
 cases h with
 | clean k q hq hc =>
  obtain ⟨c',h1,h2,h3,h4⟩:=qk xs c q hq Kn (0,0,0) [] rfl rfl;exact ⟨c',h1,h2,h3,h4⟩
 | opened k q p hp hq hpl ho =>
  obtain ⟨o1,o2,o3⟩:=nh hpl ho;have EK:(xs.drop p).getD 0 0=xs.getD p 0:=by rw [dN];rfl
  have Kb:=lX xs c;rw [hp,hq] at Kb;have hno:=jF (xs.drop p) (cf xs p) (eF _ _) (by rw [EK];exact o1);rw [EK,dN,<-Kb] at hno;have hbe:=qi (xs.drop p) (by rw [EK,<-o3];exact o2) (by rw [EK,<-o3];simp;omega);rw [EK,<-o3] at hbe;rw [hbe] at hno;have hh:¬ ((cf xs p:Int)=0):=by have:=eF xs p;omega
  have hs:ch (xs.getD p 0,eT (xs.drop p) (cf xs p - 1),(cf xs p:Int)) (xs.getD q 0)=(bB (xs.getD q 0),aX (xs.getD q 0),bC (xs.getD q 0)):=by
   unfold ch dV cV dW;simp only [if_neg hh,hno,Bool.false_eq_true,if_false]
  have ht:cW (xs.getD p 0,eT (xs.drop p) (cf xs p - 1),(cf xs p:Int)) (xs.getD q 0)=[65533]++be (xs.getD q 0):=by
   unfold cW dM;simp only [if_neg hh,hno,Bool.false_eq_true,if_false,List.cons_append,List.nil_append]
  obtain ⟨c',h1,h2,h3,h4⟩:=qk xs (c+1) q hq Kn _ [65533] hs ht;have CN:=io xs c;rw [hp,fU ho] at CN;refine ⟨c',h1,by omega,by rw [h3,CN,ht,List.append_assoc],fun i i1 i2=>?_⟩
  rcases Nat.lt_or_ge c i with h5 | h5
  ·exact h4 i h5 i2
  ·obtain rfl:i=c:=by omega
   unfold knG;rw [hp,fU ho];show min _ _=_;omega
 | mid k q p j hp hq hpl h1 hj =>
  have EK:(xs.drop p).getD 0 0=xs.getD p 0:=by rw [dN];rfl
  have h0:ax (xs.getD p 0)≠0:=by
   intro h;have:=(ke h).2;omega
  have Cc:cf xs p=fp (xs.drop p) (ax (xs.getD p 0)):=by unfold cf;rw [if_neg h0]
  have hbl:=fD (xs.drop p) (ax (xs.getD p 0)) (by simp;omega);rw [<-Cc] at hbl;have hlc:=bp (xs.getD p 0);obtain ⟨m1,m2⟩:=qj (xs.drop p) j (by rw [EK];omega) h1 (by rw [EK,<-Cc];exact hj);rw [EK,dN,<-hq] at m1 m2;have Kb:=lX xs c;rw [hp] at Kb;rw [m1,m2]
  by_cases hl:(j:Int)+1<ax (xs.getD p 0)
  ·rw [if_pos hl,if_pos hl,List.append_nil];refine ⟨c,?_,Nat.le_refl _,rfl,fun i i1 i2=>by omega⟩
   by_cases NF:j+1<cf xs p
   ·exact Pt.mid (xs:=xs) c (q+1) p (j+1) hp (by omega) hpl (by omega) NF
   ·have L6:cf xs p=j+1:=by omega
    have:=Pt.opened (xs:=xs) c (q+1) p hp (by omega) hpl ⟨h0,by rw [L6];omega⟩;rw [L6] at this;exact this
  ·have L6:cf xs p=j+1:=by omega
   have hpw:=gA h0 (by rw [L6];omega);rw [if_neg hl,if_neg hl];have CN:=io xs c;rw [hp,hpw,L6] at CN;refine ⟨c+1,Pt.clean (c+1) (q+1) (by omega) (.inr ?_),by omega,CN,fun i i1 i2=>?_⟩
   ·rw [Nat.add_sub_cancel,hp];exact fun h=>h.2 (by rw [L6];omega)
   ·obtain rfl:i=c:=by omega
    unfold knG;rw [hp,hpw,L6,hq];show (p:Int)+((j+1:Nat):Int)=_;omega
theorem yz(xs:List Int):Pt xs 0 0 (0,0,0):=Pt.clean 0 0 rfl (.inl rfl)
theorem zj{xs:List Int}{c:Nat}{s:St}(h:Pt xs xs.length c s)(K:Nat)(hK:cx xs K=xs.length) :
  s.2.2=ni xs K/\((s.2.2=0/\c=K)\/(0<s.2.2/\K=c+1/\ef xs K=ef xs c++[65533])):=by
 generalize hn:xs.length=n at h hK
 cases h with
 | clean k q hq hc =>
  obtain rfl:c=K:=qm xs (by omega);refine ⟨?_,.inl ⟨rfl,rfl⟩⟩;show (0:Int)=ni xs c;unfold ni;rw [if_neg];rintro ⟨h1,h2⟩;unfold ql at h1
  rcases hc with h0 | h0
  ·rw [if_pos h0] at h1;exact absurd h1 (by simp)
  ·by_cases hc0:c=0
   ·rw [if_pos hc0] at h1;exact absurd h1 (by simp)
   ·rw [if_neg hc0] at h1;have hne:ax (xs.getD (cx xs (c - 1)) 0)≠0:=by omega
    have he:(cf xs (cx xs (c - 1)):Int)=ax (xs.getD (cx xs (c - 1)) 0):=Classical.byContradiction fun h=>h0 ⟨hne,h⟩
    rw [gA hne he] at h1;exact absurd h1 (by simp)
 | opened k q p hp hq hpl ho =>
  obtain rfl:c+1=K:=qm xs (by omega);obtain ⟨o1,o2,o3⟩:=nh hpl ho;have O1:=eF xs p;have CN:=io xs c;rw [hp,fU ho] at CN;refine ⟨?_,.inr ⟨by show (0:Int)<cf xs p;omega,rfl,CN⟩⟩;show (cf xs p:Int)=ni xs (c+1);have hl:ql xs (c+1)=cO xs p:=by unfold ql;rw [if_neg (by omega),Nat.add_sub_cancel,hp]
  unfold ni;rw [hl,fU ho,Nat.add_sub_cancel,hp,if_pos ⟨rfl,by omega⟩]
 | mid k q p j hp hq hpl h1 hj =>
  exfalso;have:=kS xs p hpl;omega
theorem xw(xs:List Int):∀ q,q<=xs.length->∃ c,Pt xs q c (aF (0,0,0) (xs.take q))/\aA (0,0,0) (xs.take q)=ef xs c
 | 0,_=>⟨0,yz xs,rfl⟩
 | q+1,h=>by
  obtain ⟨c,h1,h2⟩:=xw xs q (by omega);obtain ⟨c',i1,_,i3,_⟩:=yy h1 (by omega);rw [fB (0,0,0) xs q (by omega),fA (0,0,0) xs q (by omega),h2];exact ⟨c',i1,i3.symm⟩
theorem xy(xs:List Int)(K:Nat)(hK:cx xs K=xs.length) :
  (aF (0,0,0) xs).2.2=ni xs K/\aA (0,0,0) xs++(if 0<(aF (0,0,0) xs).2.2 then [65533] else [])=ef xs K:=by
 obtain ⟨c,h1,h2⟩:=xw xs xs.length (Nat.le_refl _);rw [List.take_length] at h1 h2;obtain ⟨e1,e2⟩:=zj h1 K hK;refine ⟨e1,?_⟩
 rcases e2 with ⟨e2,rfl⟩ | ⟨e2,e3,e4⟩
 ·rw [if_neg (by omega),List.append_nil,h2]
 ·rw [if_pos e2,h2,e4]
section
structure FX where
 gp:Nat
 tl:Bool
 la:Int
 cj:Int
 pi:Int
 od:Bool
 op:Value
def fxL(X:FX)(l b h:Int):List Value:=[.pointer (some ⟨X.gp,0,none⟩),.int .u8 l,.int .i32 b,.int .i64 h,.bool X.tl,.int .i64 X.la,.int .u8 X.cj,.int .u8 X.pi,.bool X.od,X.op]
def FDec(X:FX)(w:World)(g:Nat)(l b h:Int):Prop:=Has w g (fxL X l b h) 143
section
variable {X : FX}
theorem fz(g:Nat)(l b h:Int)(w:World)(hd:FDec X w g l b h):Calls Tryz.prog 84 #[.pointer (some ⟨g,1,none⟩)] w fun e w'=>e=.returned (.int .i64 h)/\w=w':=by
 have c2:=hd.cell 3 _ rfl
 go_enter Tryz.func84,Tryz.ntmps84
 go_wp2;go_ret;exact ⟨rfl,rfl⟩
theorem mb(g:Nat)(l b:Int)(w:World)(hd:FDec X w g l b 0):Calls Tryz.prog 82 #[.pointer (some ⟨g,1,none⟩)] w fun e w'=>e=.returned (.slice none 0 0)/\w=w':=by
 go_enter Tryz.func82,Tryz.ntmps82
 go_wp2_with fail
 refine (fz g l b 0 _ hd).mono ?_;rintro e w' ⟨rfl,rfl⟩;go_wp2;go_ret;exact ⟨rfl,rfl⟩
def rp(X:FX)(w:World)(g:Nat)(e:Ending)(w':World):Prop:=∃ v,e=.returned v/\Held .i32 w' v [65533]/\FDec X w' g 0 0 0/\But g w.heap.size w w'
theorem FDec.zero{w:World}{g:Nat}{l b h:Int}(hd:FDec X w g l b h):FDec X (((w.setCell ⟨g,1,none⟩ (.int .u8 0)).setCell ⟨g,2,none⟩ (.int .i32 0)).setCell ⟨g,3,none⟩ (.int .i64 0)) g 0 0 0 :=
 ((hd.set 1 _).set 2 _).set 3 _
theorem cm(w:World)(g:Nat)(x y z:Value):But g w.heap.size w (((w.setCell ⟨g,1,none⟩ x).setCell ⟨g,2,none⟩ y).setCell ⟨g,3,none⟩ z) :=
 (((But.refl _ _ _).set 1 _).set 2 _).set 3 _
theorem mc(g:Nat)(l b h:Int)(w:World)(hd:FDec X w g l b h)(hh:0<h):Calls Tryz.prog 82 #[.pointer (some ⟨g,1,none⟩)] w (rp X w g):=by
 have HD:=ab hd;have c0:=hd.cell 1 _ rfl;have c1:=hd.cell 2 _ rfl;have c2:=hd.cell 3 _ rfl;have f0:=hd.free 1;have f1:=hd.free 2;have f2:=hd.free 3;have hl:=hd.lt;have t1:(h == 0)=false:=by simp;omega
 clear hd
 go_enter Tryz.func82,Tryz.ntmps82
 go_wp2_with fail
 refine (fz g l b h _ HD.out).mono ?_;rintro e w' ⟨rfl,rfl⟩;go_wp2;go_ret;refine ⟨_,rfl,qt .i32 _ _ [.int .i32 65533] 21 1 1 [65533] (by simp) rfl rfl,(HD.out.zero).alloc _,(cm w g _ _ _).alloc (Nat.le_refl _) _⟩
theorem gV(g:Nat)(l b h x:Int)(w:World)(hd:FDec X w g l b h)(l0:0<=l)(l1:l<=255)(x0:0<=x)(x1:x<=255):Calls Tryz.prog 204 #[.pointer (some ⟨g,1,none⟩),.int .u8 x] w fun e w'=>e=.returned (.bool (bO l h x))/\w=w':=by
 have c0:=hd.cell 1 _ rfl;have c2:=hd.cell 3 _ rfl;clear hd
 by_cases h1:1<h
 ·rw [show bO l h x=fC x from by unfold bO;rw [if_pos h1]]
  go_enter Tryz.func204,Tryz.ntmps204
  go_wp2_with fail
  refine (wS x _ x0 x1).mono ?_;rintro e w' ⟨rfl,rfl⟩;go_wp2;go_ret;exact ⟨rfl,rfl⟩
 ·have hs:bO l h x=(decide (lo2 l<=x) && decide (x<=hi2 l)):=by unfold bO;rw [if_neg h1]
  have HS:=ab hs;clear hs
  by_cases h2:lo2 l<=x
  ·go_enter Tryz.func204,Tryz.ntmps204
   go_wp2_with fail
   refine (lR l _ l0 l1).mono ?_;rintro e w' ⟨rfl,rfl⟩;go_wp2;go_ret;exact ⟨al (by rw [HS.out];simp [h2]),rfl⟩
  ·go_enter Tryz.func204,Tryz.ntmps204
   go_wp2_with fail
   refine (lR l _ l0 l1).mono ?_;rintro e w' ⟨rfl,rfl⟩;go_wp2;go_ret;exact ⟨al (by rw [HS.out];simp;omega),rfl⟩
def ij(X:FX)(B:Nat)(w:World)(g:Nat)(n:Nat)(xs:List Int)(l b h:Int)(e:Ending)(w':World):Prop :=
 ∃ v',e=.returned v'/\w'.ownsRow B 21 1 v' n (xs.map (Value.int .i32))/\FDec X w' g l b h/\But g B w w'
theorem jw(g B:Nat)(v:Value)(n:Nat)(xs:List Int)(x:Int)(w:World)(hd:FDec X w g 0 0 0)(hg:g<B)(hown:w.ownsRow B 21 1 v n (xs.map (Value.int .i32)))(hB:B<=w.heap.size)(hn:n<=1000000000)(x0:0<=x)(x1:x<=255) :
  Calls Tryz.prog 205 #[.pointer (some ⟨g,1,none⟩),v,.int .u8 x] w (ij X B w g (n+(be x).length) (xs++be x) (bB x) (aX x) (bC x)):=by
 have HD:=ab hd;have c0:=hd.cell 1 _ rfl;have c1:=hd.cell 2 _ rfl;have c2:=hd.cell 3 _ rfl;have f0:=hd.free 1;have f1:=hd.free 2;have f2:=hd.free 3;have hl:=hd.lt;clear hd
 rcases bp x with ⟨h2,hs⟩ | ⟨h2,h3,hs⟩ | ⟨h2,h3,hs⟩ | ⟨h2,h3,hs⟩ | ⟨h2,h3,hs⟩ | ⟨h2,hs⟩
 ·rw [show be x=[x] from by simp [be,hs],show bB x=0 from by simp [bB,hs],show aX x=0 from by simp [aX,hs],show bC x=0 from by simp [bC,hs]];have HS:=ab hs;clear hs
  go_enter Tryz.func205,Tryz.ntmps205
  go_wp2_with fail
  refine (dm x _ x0 x1).mono ?_;rintro e w' ⟨rfl,rfl⟩;rw [HS.out]
  go_wp2_with (at_builtin;refine bZ w rfl (.tmp 16) (.tmp 19) 27 rfl B 21 (.int .i32 0) 4 Tryz.underlying27 Tryz.info21 rfl v n (xs.map (Value.int .i32)) rfl hown [.int .i32 x] 1 1 rfl rfl (by intro u hu;simp at hu;rcases hu with rfl <;> rfl) (by omega) (by omega) hB ?_)
  intro v' w' hown' hb;clear hown;go_wp2;go_ret;exact ⟨v',rfl,by simpa using hown',HD.out.below hb hg,.ofBelow hb⟩
 ·rw [show be x=[65533] from by simp [be,hs],show bB x=0 from by simp [bB,hs],show aX x=0 from by simp [aX,hs],show bC x=0 from by simp [bC,hs]];have HS:=ab hs;clear hs
  go_enter Tryz.func205,Tryz.ntmps205
  go_wp2_with fail
  refine (dm x _ x0 x1).mono ?_;rintro e w' ⟨rfl,rfl⟩;rw [HS.out]
  go_wp2_with (at_builtin;refine bZ w rfl (.tmp 11) (.tmp 12) 27 rfl B 21 (.int .i32 0) 4 Tryz.underlying27 Tryz.info21 rfl v n (xs.map (Value.int .i32)) rfl hown [.int .i32 65533] 1 1 rfl rfl (by intro u hu;simp at hu;rcases hu with rfl <;> rfl) (by omega) (by omega) hB ?_)
  intro v' w' hown' hb;clear hown;go_wp2;go_ret;exact ⟨v',rfl,by simpa using hown',HD.out.below hb hg,.ofBelow hb⟩
 ·rw [show be x=[] from by simp [be,hs],show bB x=x from by simp [bB,hs],show aX x=bY x from by simp [aX,hs],show bC x=1 from by simp [bC,hs]];have I0:0<=bY x/\bY x<=255:=by unfold bY;rw [hs];simp;omega
  have HS:=ab hs;clear hs
  go_enter Tryz.func205,Tryz.ntmps205
  go_wp2_with fail
  refine (dm x _ x0 x1).mono ?_;rintro e w' ⟨rfl,rfl⟩;rw [HS.out]
  go_wp2_with fail
  refine (lQ x _ x0 x1).mono ?_;rintro e w' ⟨rfl,rfl⟩;go_wp2;go_ret;exact ⟨v,rfl,by simpa using fY hown (cm w g _ _ _) hg,((HD.out.set 1 _).set 2 _).set 3 _,(cm w g _ _ _).mono hB⟩
 ·rw [show be x=[] from by simp [be,hs],show bB x=x from by simp [bB,hs],show aX x=bY x from by simp [aX,hs],show bC x=1 from by simp [bC,hs]];have I0:0<=bY x/\bY x<=255:=by unfold bY;rw [hs];simp;omega
  have HS:=ab hs;clear hs
  go_enter Tryz.func205,Tryz.ntmps205
  go_wp2_with fail
  refine (dm x _ x0 x1).mono ?_;rintro e w' ⟨rfl,rfl⟩;rw [HS.out]
  go_wp2_with fail
  refine (lQ x _ x0 x1).mono ?_;rintro e w' ⟨rfl,rfl⟩;go_wp2;go_ret;exact ⟨v,rfl,by simpa using fY hown (cm w g _ _ _) hg,((HD.out.set 1 _).set 2 _).set 3 _,(cm w g _ _ _).mono hB⟩
 ·rw [show be x=[] from by simp [be,hs],show bB x=x from by simp [bB,hs],show aX x=bY x from by simp [aX,hs],show bC x=1 from by simp [bC,hs]];have I0:0<=bY x/\bY x<=255:=by unfold bY;rw [hs];simp;omega
  have HS:=ab hs;clear hs
  go_enter Tryz.func205,Tryz.ntmps205
  go_wp2_with fail
  refine (dm x _ x0 x1).mono ?_;rintro e w' ⟨rfl,rfl⟩;rw [HS.out]
  go_wp2_with fail
  refine (lQ x _ x0 x1).mono ?_;rintro e w' ⟨rfl,rfl⟩;go_wp2;go_ret;exact ⟨v,rfl,by simpa using fY hown (cm w g _ _ _) hg,((HD.out.set 1 _).set 2 _).set 3 _,(cm w g _ _ _).mono hB⟩
 ·rw [show be x=[65533] from by simp [be,hs],show bB x=0 from by simp [bB,hs],show aX x=0 from by simp [aX,hs],show bC x=0 from by simp [bC,hs]];have HS:=ab hs;clear hs
  go_enter Tryz.func205,Tryz.ntmps205
  go_wp2_with fail
  refine (dm x _ x0 x1).mono ?_;rintro e w' ⟨rfl,rfl⟩;rw [HS.out]
  go_wp2_with (at_builtin;refine bZ w rfl (.tmp 11) (.tmp 12) 27 rfl B 21 (.int .i32 0) 4 Tryz.underlying27 Tryz.info21 rfl v n (xs.map (Value.int .i32)) rfl hown [.int .i32 65533] 1 1 rfl rfl (by intro u hu;simp at hu;rcases hu with rfl <;> rfl) (by omega) (by omega) hB ?_)
  intro v' w' hown' hb;clear hown;go_wp2;go_ret;exact ⟨v',rfl,by simpa using hown',HD.out.below hb hg,.ofBelow hb⟩
theorem me(g B:Nat)(v:Value)(n:Nat)(xs:List Int)(x:Int)(w:World)(hd:FDec X w g 0 0 0)(hg:g<B)(hown:w.ownsRow B 21 1 v n (xs.map (Value.int .i32)))(hB:B<=w.heap.size)(hn:n<=1000000000)(x0:0<=x)(x1:x<=255) :
  Calls Tryz.prog 151 #[.pointer (some ⟨g,1,none⟩),v,.int .u8 x] w (ij X B w g (n+(be x).length) (xs++be x) (bB x) (aX x) (bC x)):=by
 have HD:=ab hd;have c2:=hd.cell 3 _ rfl;clear hd
 go_enter Tryz.func151,Tryz.ntmps151
 go_wp2_with fail
 refine (jw g B v n xs x _ HD.out hg hown hB hn x0 x1).mono ?_;rintro e w1 ⟨v1,rfl,ho,hd,hb⟩;clear hown;go_wp2;go_ret;exact ⟨v1,rfl,ho,hd,hb⟩
theorem gx(w:World)(g:Nat)(y z:Value):But g w.heap.size w ((w.setCell ⟨g,2,none⟩ y).setCell ⟨g,3,none⟩ z):=((But.refl _ _ _).set 2 _).set 3 _
theorem rq(g B:Nat)(v:Value)(n:Nat)(xs:List Int)(l b h x:Int)(w:World)(hd:FDec X w g l b h)(l0:0<=l)(l1:l<=255)(h0:1<=h)(h1:h<=4)(b0:0<=b)(b1:b<32768)(hx:bO l h x=true)(hg:g<B)(hown:w.ownsRow B 21 1 v n (xs.map (Value.int .i32)))(hB:B<=w.heap.size)(hn:n<=1000000000)(x0:0<=x)(x1:x<=255)(hm:h+1<ax l) :
  Calls Tryz.prog 151 #[.pointer (some ⟨g,1,none⟩),v,.int .u8 x] w (ij X B w g n xs l (b * 64+x % 64) (h+1)):=by
 have HD:=ab hd;have c0:=hd.cell 1 _ rfl;have c1:=hd.cell 2 _ rfl;have c2:=hd.cell 3 _ rfl;have f1:=hd.free 2;have f2:=hd.free 3;have hl:=hd.lt;have t1:(h == 0)=false:=by simp;omega
 have e1:=oI x x0 x1;have e2:=oH (b * 64) (x % 64) (by omega) (by omega) (by omega) (by omega) (by omega);have HN:=ab hx;clear hd hx
 go_enter Tryz.func151,Tryz.ntmps151
 go_wp2_with fail
 refine (gV g l b h x _ HD.out l0 l1 x0 x1).mono ?_;rintro e w' ⟨rfl,rfl⟩;rw [HN.out];go_wp2
 go_quiet ((go_at_call 206;exact yC (dm l _ l0 l1)))
 go_wp2;go_ret;exact ⟨v,rfl,fY hown ((gx w g _ _).drewN nq) hg,((HD.out.set 2 _).set 3 _).drewN nq,((gx w g _ _).drewN nq).mono hB⟩
theorem mf(g B:Nat)(v:Value)(n:Nat)(xs:List Int)(l b h x:Int)(w:World)(hd:FDec X w g l b h)(l0:0<=l)(l1:l<=255)(h0:1<=h)(h1:h<=4)(b0:0<=b)(b1:b<32768)(hx:bO l h x=true)(hg:g<B)(hown:w.ownsRow B 21 1 v n (xs.map (Value.int .i32)))(hB:B<=w.heap.size)(hn:n<=1000000000)(x0:0<=x)(x1:x<=255)(hm:¬ h+1<ax l) :
  Calls Tryz.prog 151 #[.pointer (some ⟨g,1,none⟩),v,.int .u8 x] w (ij X B w g (n+1) (xs++[b * 64+x % 64]) 0 0 0):=by
 have HD:=ab hd;have c0:=hd.cell 1 _ rfl;have c1:=hd.cell 2 _ rfl;have c2:=hd.cell 3 _ rfl;have f1:=hd.free 2;have f2:=hd.free 3;have hl:=hd.lt;have t1:(h == 0)=false:=by simp;omega
 have e1:=oI x x0 x1;have e2:=oH (b * 64) (x % 64) (by omega) (by omega) (by omega) (by omega) (by omega);have HN:=ab hx;clear hd hx
 go_enter Tryz.func151,Tryz.ntmps151
 go_wp2_with fail
 refine (gV g l b h x _ HD.out l0 l1 x0 x1).mono ?_;rintro e w' ⟨rfl,rfl⟩;rw [HN.out];go_wp2
 go_quiet ((go_at_call 206;exact yC (dm l _ l0 l1)))
 have Ap:=fY hown ((gx w g (.int .i32 (b * 64+x % 64)) (.int .i64 (h+1))).drewN nq) hg;have IY:=((HD.out.set 2 (.int .i32 (b * 64+x % 64))).set 3 (.int .i64 (h+1))).drewN nq;have hb2:=((gx w g (.int .i32 (b * 64+x % 64)) (.int .i64 (h+1))).drewN nq).mono hB;have Mv:=Nat.le_trans hB hb2.size;generalize (((w.setCell ⟨g,2,none⟩ (.int .i32 (b * 64+x % 64))).setCell ⟨g,3,none⟩ (.int .i64 (h+1))).drewN nq)=w2 at *;have c1:=IY.cell 2 _ rfl;clear c0 c2 f1 f2 hown
 go_wp2_with (at_builtin;refine bZ w2 rfl (.tmp 61) (.tmp 66) 27 rfl B 21 (.int .i32 0) 4 Tryz.underlying27 Tryz.info21 rfl v n (xs.map (Value.int .i32)) rfl Ap [.int .i32 (b * 64+x % 64)] 1 1 rfl rfl (by intro u hu;simp at hu;rcases hu with rfl <;> rfl) (by omega) (by omega) Mv ?_)
 intro v' w' hown' hb;have KN:=IY.below hb hg;have c0:=KN.cell 1 _ rfl;have c1:=KN.cell 2 _ rfl;have c2:=KN.cell 3 _ rfl;have f0:=KN.free 1;have f1:=KN.free 2;have f2:=KN.free 3;have Oo:=((KN.set 1 (.int .u8 0)).set 2 (.int .i32 0)).set 3 (.int .i64 0);have hb4:=(hb2.trans (.ofBelow hb)).trans ((cm w' g (.int .u8 0) (.int .i32 0) (.int .i64 0)).mono (Nat.le_trans Mv hb.size));have K3:=fY hown' (cm w' g (.int .u8 0) (.int .i32 0) (.int .i64 0)) hg;clear Ap hown' IY KN hb2 hb;go_wp2;go_ret;exact ⟨v',rfl,by simpa using K3,Oo,hb4⟩
theorem pV(g B:Nat)(v:Value)(n:Nat)(xs:List Int)(l b h x:Int)(w:World)(hd:FDec X w g l b h)(l0:0<=l)(l1:l<=255)(h0:1<=h)(h1:h<=4)(hx:bO l h x=false)(hg:g<B)(hown:w.ownsRow B 21 1 v n (xs.map (Value.int .i32)))(hB:B<=w.heap.size)(hn:n<=1000000000 - 1)(x0:0<=x)(x1:x<=255) :
  Calls Tryz.prog 151 #[.pointer (some ⟨g,1,none⟩),v,.int .u8 x] w (ij X B w g (n+1+(be x).length) ((xs++[65533])++be x) (bB x) (aX x) (bC x)):=by
 have HD:=ab hd;have c2:=hd.cell 3 _ rfl;have HN:=ab hx;clear hd hx
 go_enter Tryz.func151,Tryz.ntmps151
 go_wp2_with fail
 refine (gV g l b h x _ HD.out l0 l1 x0 x1).mono ?_;rintro e w' ⟨rfl,rfl⟩;rw [HN.out]
 go_wp2_with fail
 refine (mc g l b h _ HD.out (by omega)).mono ?_;rintro e w1 ⟨v1,rfl,DV,Ig,hb1⟩;have AA:=fY hown hb1 hg;have DO:=Nat.le_trans hB hb1.size;clear hown c2
 go_wp2_with (at_builtin;refine cR w1 rfl (.tmp 18) (.tmp 20) 27 rfl B 21 (.int .i32 0) 4 Tryz.underlying27 Tryz.info21 rfl .i32 v n xs rfl AA v1 [65533] rfl DV (by simp;omega) (by simp;omega) DO ?_)
 intro v2 w2 Ap hb2;have IY:=Ig.below hb2 hg;have c2:=IY.cell 3 _ rfl;have BY:=(hb1.mono hB).trans (.ofBelow hb2);have Mv:=Nat.le_trans DO hb2.size;clear AA Ig hb1 hb2 DV
 go_wp2_with fail
 refine (jw g B v2 (n+1) (xs++[65533]) x _ IY hg (by rw [List.map_append];exact Ap) Mv (by omega) x0 x1).mono ?_;rintro e w3 ⟨v3,rfl,ho,hd,hb⟩;clear Ap;go_wp2;go_ret;exact ⟨v3,rfl,ho,hd,BY.trans hb⟩
theorem pW(g B:Nat)(v:Value)(n:Nat)(xs:List Int)(l b h x:Int)(w:World)(hd:FDec X w g l b h)(hw:wfD l b h)(hg:g<B)(hown:w.ownsRow B 21 1 v n (xs.map (Value.int .i32)))(hB:B<=w.heap.size)(hn:n<=1000000000 - 1)(x0:0<=x)(x1:x<=255) :
  Calls Tryz.prog 151 #[.pointer (some ⟨g,1,none⟩),v,.int .u8 x] w (ij X B w g (n+(dM l b h x).length) (xs++dM l b h x) (dV l h x) (cV l b h x) (dW l h x)):=by
 rcases hw with ⟨rfl,rfl,rfl⟩ | ⟨l0,l1,h0,h1,b0,b1⟩
 ·exact me g B v n xs x w hd hg hown hB (by omega) x0 x1
 ·have hl4:=pX l;have hm:=y8 (ax l) h;have hne:¬ h=0:=by omega
  cases hx:bO l h x with
  | true =>
   by_cases Gb:h+1<ax l
   ·have e1:dM l b h x=[]:=by unfold dM;rw [if_neg hne,if_pos hx,if_pos Gb]
    have e2:dV l h x=l:=by unfold dV;rw [if_neg hne,if_pos hx,if_pos Gb]
    have e3:cV l b h x=b * 64+x % 64:=by unfold cV;rw [if_neg hne,if_pos hx,if_pos Gb]
    have e4:dW l h x=h+1:=by unfold dW;rw [if_neg hne,if_pos hx,if_pos Gb]
    rw [e1,e2,e3,e4]
    simpa using rq g B v n xs l b h x w hd l0 l1 h0 (by omega) b0 (by omega) hx hg hown hB (by omega) x0 x1 Gb
   ·have e1:dM l b h x=[b * 64+x % 64]:=by unfold dM;rw [if_neg hne,if_pos hx,if_neg Gb]
    have e2:dV l h x=0:=by unfold dV;rw [if_neg hne,if_pos hx,if_neg Gb]
    have e3:cV l b h x=0:=by unfold cV;rw [if_neg hne,if_pos hx,if_neg Gb]
    have e4:dW l h x=0:=by unfold dW;rw [if_neg hne,if_pos hx,if_neg Gb]
    rw [e1,e2,e3,e4];exact mf g B v n xs l b h x w hd l0 l1 h0 (by omega) b0 (by omega) hx hg hown hB (by omega) x0 x1 Gb
  | false =>
   have Om:¬ bO l h x=true:=by rw [hx];simp
   have e1:dM l b h x=65533 :: be x:=by unfold dM;rw [if_neg hne,if_neg Om]
   have e2:dV l h x=bB x:=by unfold dV;rw [if_neg hne,if_neg Om]
   have e3:cV l b h x=aX x:=by unfold cV;rw [if_neg hne,if_neg Om]
   have e4:dW l h x=bC x:=by unfold dW;rw [if_neg hne,if_neg Om]
   rw [e1,e2,e3,e4];have:=pV g B v n xs l b h x w hd l0 l1 h0 (by omega) hx hg hown hB hn x0 x1;rw [List.length_cons,show n+((be x).length+1)=n+1+(be x).length from by omega]
   simpa using this
def rs(X:FX)(w:World)(g:Nat)(xs:List Int)(l b h:Int)(e:Ending)(w':World):Prop :=
 ∃ v',e=.returned v'/\HeldE (aE .i32) (fun b=>w.heap.size<=b) w' v' xs/\FDec X w' g l b h/\But g w.heap.size w w'
theorem oy(g:Nat)(l b h x:Int)(w:World)(hd:FDec X w g l b h)(hw:wfD l b h)(x0:0<=x)(x1:x<=255) :
  Calls Tryz.prog 80 #[.pointer (some ⟨g,1,none⟩),.int .u8 x] w (rs X w g (dM l b h x) (dV l h x) (cV l b h x) (dW l h x)):=by
 have HD:=ab hd;have hg:=hd.lt;have HW:=ab hw;clear hd hw
 go_enter Tryz.func80,Tryz.ntmps80
 go_wp2_with fail
 refine (pW g w.heap.size (.slice none 0 0) 0 [] l b h x _ HD.out HW.out hg (World.ownsRow_nil _ _ _ _) (Nat.le_refl _) (by omega) x0 x1).mono ?_;rintro e w1 ⟨v1,rfl,ho,hd,hb⟩;have hh:=HeldE.ownedInts ho;clear ho;go_wp2;go_ret;exact ⟨v1,rfl,by simpa using hh,hd,hb⟩
end
end
section
def qR(l:List Int):List Int:=l++List.replicate (16 - l.length) 0
theorem vp(l:List Int)(h:l.length<=16):(qR l).length=16:=by simp [qR];omega
def wcl(l:List Int):List Value:=.int .i64 l.length :: (qR l).map (Value.int .i32)
def wtl(a b c:Bool)(wd r k:Int)(p:Bool):List Value:=[.bool a,.bool b,.bool c,.int .i64 wd,.int .i64 r,.int .i64 k,.bool p]
theorem fx(l:List Int)(h:l.length<=16):(wcl l).length=17:=by simp [wcl,vp l h]
def WAt(w:World)(g:Nat)(l:List Int)(a b c:Bool)(wd r k:Int)(p:Bool):Prop:=Has w g (wcl l++wtl a b c wd r k p) 130/\l.length<=16
section
variable {w w' : World} {g : Nat} {l : List Int} {a b c : Bool} {wd r k : Int} {p : Bool}
theorem WAt.tail(h:WAt w g l a b c wd r k p)(i:Nat)(v:Value)(hv:(wtl a b c wd r k p)[i]? = some v):w.cell? ⟨g,17+i,none⟩=some v :=
 h.1.cell (17+i) v (by rw [List.getElem?_append_right (by rw [fx l h.2];omega),fx l h.2,Nat.add_sub_cancel_left];exact hv)
theorem WAt.cells(h:WAt w g l a b c wd r k p):w.cell? ⟨g,0,none⟩=some (.int .i64 l.length)/\w.cell? ⟨g,17,none⟩=some (.bool a)/\w.cell? ⟨g,18,none⟩=some (.bool b)/\w.cell? ⟨g,19,none⟩=some (.bool c)/\w.cell? ⟨g,20,none⟩=some (.int .i64 wd)/\w.cell? ⟨g,21,none⟩=some (.int .i64 r)/\w.cell? ⟨g,22,none⟩=some (.int .i64 k)/\w.cell? ⟨g,23,none⟩=some (.bool p) :=
 ⟨h.1.cell 0 _ rfl,h.tail 0 _ rfl,h.tail 1 _ rfl,h.tail 2 _ rfl,h.tail 3 _ rfl,h.tail 4 _ rfl,h.tail 5 _ rfl,h.tail 6 _ rfl⟩
theorem WAt.lt(h:WAt w g l a b c wd r k p):g<w.heap.size:=h.1.lt
theorem WAt.below(h:WAt w g l a b c wd r k p)(hb:Below w.heap.size w w'):WAt w' g l a b c wd r k p:=⟨h.1.below hb h.1.lt,h.2⟩
theorem WAt.at_(h:WAt w g l a b c wd r k p)(i:Nat)(hi:i<l.length):w.cell? ⟨g,1+i,none⟩=some (.int .i32 (l.getD i 0)):=by
 refine h.1.cell (1+i) _ ?_;rw [List.getElem?_append_left (by rw [fx l h.2];have:=h.2;omega)];unfold wcl qR;rw [Nat.add_comm,List.getElem?_cons_succ,List.getElem?_map,List.getElem?_append_left hi,List.getElem?_eq_getElem hi]
 simp [List.getD,List.getElem?_eq_getElem hi]
theorem xY(l:List Int)(T:List Value)(r:Int)(h:l.length<16):((wcl l++T).set (1+l.length) (.int .i32 r)).set 0 (.int .i64 ((l.length:Int)+1))=wcl (l++[r])++T:=by
 rw [List.set_append_left _ _ (by rw [fx l (by omega)];omega),List.set_append_left _ _ (by rw [List.length_set,fx l (by omega)];omega)]
 congr 1
 unfold wcl;rw [Nat.add_comm,List.set_cons_succ,List.set_cons_zero];have h1:((qR l).map (Value.int .i32)).set l.length (.int .i32 r)=(qR (l++[r])).map (Value.int .i32):=by
  rw [<-List.map_set]
  congr 1
  unfold qR;obtain ⟨m,hm⟩ : ∃ m,16 - l.length=m+1:=⟨15 - l.length,by omega⟩;have Gb:16 - (l++[r]).length=m:=by simp;omega
  rw [hm,Gb,List.replicate_succ,List.set_append_right _ _ (Nat.le_refl _)]
  simp
 rw [h1]
 simp
theorem iK(l:List Int)(T:List Value)(i:Nat)(v:Value)(h:l.length<=16):(wcl l++T).set (17+i) v=wcl l++T.set i v:=by
 rw [List.set_append_right _ _ (by rw [fx l h];omega),fx l h,Nat.add_sub_cancel_left]
theorem WAt.gauge(h:WAt w g l a b c wd r k p)(x y z:Bool):WAt (((w.setCell ⟨g,17,none⟩ (.bool x)).setCell ⟨g,18,none⟩ (.bool y)).setCell ⟨g,19,none⟩ (.bool z)) g l x y z wd r k p/\But g w.heap.size w (((w.setCell ⟨g,17,none⟩ (.bool x)).setCell ⟨g,18,none⟩ (.bool y)).setCell ⟨g,19,none⟩ (.bool z)):=by
 have h1:=h.1.set (17+0) (.bool x);rw [iK l _ 0 _ h.2] at h1;have h2:=h1.set (17+1) (.bool y);rw [iK l _ 1 _ h.2] at h2;have h3:=h2.set (17+2) (.bool z);rw [iK l _ 2 _ h.2] at h3;exact ⟨⟨h3,h.2⟩,(((But.refl _ _ _).set _ _).set _ _).set _ _⟩
theorem WAt.wide(h:WAt w g l a b c wd r k p)(x:Int):WAt (w.setCell ⟨g,20,none⟩ (.int .i64 x)) g l a b c x r k p/\But g w.heap.size w (w.setCell ⟨g,20,none⟩ (.int .i64 x)):=by
 have h1:=h.1.set (17+3) (.int .i64 x);rw [iK l _ 3 _ h.2] at h1;exact ⟨⟨h1,h.2⟩,(But.refl _ _ _).set _ _⟩
theorem WAt.place(h:WAt w g l a b c wd r k p)(x y:Int)(z:Bool):WAt (((w.setCell ⟨g,21,none⟩ (.int .i64 x)).setCell ⟨g,22,none⟩ (.int .i64 y)).setCell ⟨g,23,none⟩ (.bool z)) g l a b c wd x y z/\Upd (fun q=>q=g) w (((w.setCell ⟨g,21,none⟩ (.int .i64 x)).setCell ⟨g,22,none⟩ (.int .i64 y)).setCell ⟨g,23,none⟩ (.bool z)):=by
 have h1:=h.1.set (17+4) (.int .i64 x);rw [iK l _ 4 _ h.2] at h1;have h2:=h1.set (17+5) (.int .i64 y);rw [iK l _ 5 _ h.2] at h2;have h3:=h2.set (17+6) (.bool z);rw [iK l _ 6 _ h.2] at h3;exact ⟨⟨h3,h.2⟩,(((Upd.refl (fun q=>q=g) w).setCell (p:=⟨g,21,none⟩) (.inl rfl) _).setCell (p:=⟨g,22,none⟩) (.inl rfl) _).setCell (p:=⟨g,23,none⟩) (.inl rfl) _⟩
theorem vq(h:WAt w g l a b c wd r k p):Calls Tryz.prog 139 #[.pointer (some ⟨g,0,none⟩)] w fun e w'=>e=.returned (.int .i64 l.length)/\w=w':=by
 have c0:=h.cells.1;clear h
 go_enter Tryz.func139,Tryz.ntmps139
 go_wp2;go_ret;exact ⟨af,rfl⟩
theorem jW(h:WAt w g l a b c wd r k p)(q:Bool)(hb:((l.length:Int) == 16)=q):Calls Tryz.prog 74 #[.pointer (some ⟨g,0,none⟩)] w fun e w'=>e=.returned (.bool q)/\w=w':=by
 have HB:=ab hb;have H:=ab (vq h);clear hb h
 go_enter Tryz.func74,Tryz.ntmps74
 go_wp2_with fail
 refine H.out.mono ?_;rintro e w1 ⟨rfl,rfl⟩;go_wp2;go_ret;exact ⟨al (by first | rfl | (rw [HB.out];try rfl)),rfl⟩
theorem vr(h:WAt w g l a b c wd r k p)(x:Int)(hl:l.length<16):Calls Tryz.prog 136 #[.pointer (some ⟨g,0,none⟩),.int .i32 x] w (fun e w'=>e=.returned (.bool true)/\WAt w' g (l++[x]) a b c wd r k p/\But g w.heap.size w w'):=by
 have hb:((l.length:Int) == 16)=false:=by simp;omega
 have HB:=ab hb;have c0:=h.cells.1;have f0:=h.1.free 0;have f1:=h.1.free (1+l.length);obtain ⟨x1,hx1⟩ : ∃ x,w.cell? ⟨g,1+l.length,none⟩=some x:=⟨_,h.1.cell (1+l.length) ((wcl l++wtl a b c wd r k p)[1+l.length]'(by rw [List.length_append,fx l (by omega)];omega)) (List.getElem?_eq_getElem _)⟩;have HF:=ab (show ∀ W,Has W g (wcl l++wtl a b c wd r k p) 130->WAt ((W.setCell ⟨g,1+l.length,none⟩ (.int .i32 x)).setCell ⟨g,0,none⟩ (.int .i64 ((l.length:Int)+1))) g (l++[x]) a b c wd r k p/\But g W.heap.size W ((W.setCell ⟨g,1+l.length,none⟩ (.int .i32 x)).setCell ⟨g,0,none⟩ (.int .i64 ((l.length:Int)+1))) from fun W h=>by
  have:=(h.set (1+l.length) (.int .i32 x)).set 0 (.int .i64 ((l.length:Int)+1));rw [xY l _ x hl] at this;exact ⟨⟨this,by simp;omega⟩,((But.refl _ _ _).set _ _).set _ _⟩)
 have HH:=ab h;have HU:=ab (jW h false HB.out);have b0:(0:Int)<=(l.length:Int):=by omega
 have b1:(l.length:Int)<16:=by omega
 clear hb h
 go_enter Tryz.func136,Tryz.ntmps136
 go_wp2_with fail
 refine HU.out.mono ?_;rintro e w1 ⟨rfl,rfl⟩;go_wp2
 go_still_tail 9,(by kernel_rfl)
 go_wp2;go_ret;exact ⟨af,(HF.out w HH.out.1).1,(HF.out w HH.out.1).2.drew⟩
theorem jX(h:WAt w g l a b c wd r k p):Calls Tryz.prog 73 #[.pointer (some ⟨g,0,none⟩)] w (iI 21 .i32 w l):=by
 have hl:=h.2;have c0:=h.cells.1;have hh:Held .i32 w.drew (.slice (some ⟨g,1,none⟩) l.length 16) l:=hJ (show g<w.drew.heap.size from h.lt) (fun i hi=>h.at_ i hi);have b0:(0:Int)<=(l.length:Int):=by omega
 have b1:(l.length:Int)<=16:=by omega
 have DG:=lr _ l w.drew hh (by omega);have Gj:=ab DG;clear h hh DG
 go_enter Tryz.func73,Tryz.ntmps73
 go_wp2
 go_still_tail 8,(by kernel_rfl)
 go_wp2_with fail
 refine Gj.out.mono ?_;rintro e w1 ⟨v1,rfl,ho,hb⟩;go_wp2;go_ret;exact ⟨_,rfl,ho,yN hb⟩
end
theorem mK(w:World)(br:Int)(pc:Bool)(cj ea:Int):∃ W,W=w.alloc (.cells #[Value.int .i64 br,.bool pc,.int .i64 cj,.int .i64 ea] 33)/\Has W w.heap.size [Value.int .i64 br,.bool pc,.int .i64 cj,.int .i64 ea] 33/\Below w.heap.size w W :=
 ⟨_,rfl,Has.new w _ _,zI _ _⟩
theorem pr(g:Nat)(l:List Int)(told pic two:Bool)(wd rr k:Int)(p:Bool)(r br:Int)(pc:Bool)(cv ea:Int)(w:World)(hg:WAt w g l told pic two wd rr k p) :
  Calls Tryz.prog 194 #[.pointer (some ⟨g,17,none⟩),.int .i32 r,.agg #[.int .i64 br,.bool pc,.int .i64 cv,.int .i64 ea]] w (Gives w (.bool (dz told pic r br pc ea))):=by
 have H0:=ab (show ∀ w1,Below (w.alloc (.cells #[.int .i64 br,.bool pc,.int .i64 cv,.int .i64 ea] 33)).heap.size (w.alloc (.cells #[.int .i64 br,.bool pc,.int .i64 cv,.int .i64 ea] 33)) w1->WAt w1 g l told pic two wd rr k p/\Has w1 w.heap.size [.int .i64 br,.bool pc,.int .i64 cv,.int .i64 ea] 33/\Below w.heap.size w w1 from fun w1 b1 =>
  ⟨⟨Has.below (Has.alloc hg.1 _) b1 (Has.alloc hg.1 _).lt,hg.2⟩,Has.below (Has.new w _ _) b1 (Has.new w _ _).lt,(zI _ _).trans (b1.mono (by simp))⟩)
 have HO:=ab (fun w=>xZ br pc cv ea w);clear hg;have hcs:=sZ told pic r br pc ea;generalize bA br ea=x at *
 rcases hcs with ⟨h1,hs⟩ | ⟨h1,h2,rfl,hs⟩ | ⟨h1,⟨h2,rfl⟩ | h2,⟨rfl,hs⟩ | ⟨rfl,rfl,hs⟩ | ⟨rfl,rfl,hs⟩⟩
 all_goals
  have HS:=ab hs;clear hs
  go_enter Tryz.func194,Tryz.ntmps194
  go_wp2_with fail
  refine (HO.out _).mono ?_;rintro e w1 ⟨rfl,b1⟩;obtain ⟨hg,hp,hl⟩:=H0.out w1 b1;obtain ⟨_,g0,g1,_⟩:=hg.cells;have p0:=hp.cell 0 _ rfl;have p1:=hp.cell 1 _ rfl;have hlt:=hg.lt;clear hg hp b1;go_wp2;go_ret;exact ⟨al (by rw [HS.out];first | rfl | simp),hl⟩
theorem sY(g:Nat)(l:List Int)(told pic two:Bool)(wd rr k:Int)(p:Bool)(r br:Int)(pc:Bool)(cv ea:Int)(w:World)(hg:WAt w g l told pic two wd rr k p) :
  Calls Tryz.prog 137 #[.pointer (some ⟨g,17,none⟩),.int .i32 r,.agg #[.int .i64 br,.bool pc,.int .i64 cv,.int .i64 ea]] w (fun e w'=>e=.returned (.int .i64 (if (two || dz told pic r br pc ea)=true then 2 else 1))/\WAt w' g l true pc (two || dz told pic r br pc ea) wd rr k p/\But g w.heap.size w w'):=by
 obtain ⟨y,hy⟩ : ∃ y,dz told pic r br pc ea=y:=⟨_,rfl⟩;have HW:=ab (fun w (h:WAt w g l told pic two wd rr k p)=>hy ▸ pr g l told pic two wd rr k p r br pc cv ea w h:∀ w,WAt w g l told pic two wd rr k p->Calls Tryz.prog 194 #[.pointer (some ⟨g,17,none⟩),.int .i32 r,.agg #[.int .i64 br,.bool pc,.int .i64 cv,.int .i64 ea]] w (Gives w (.bool y)));rw [hy];have hlt:=hg.lt;have HG:=ab hg;clear hg hy
 cases two
 all_goals cases y
 all_goals
  go_enter Tryz.func137,Tryz.ntmps137
  go_wp2_with fail
  obtain ⟨W,hW,hb,hl⟩:=mK w br pc cv ea;rw [<-hW];have hg:WAt (w.alloc (.cells #[.int .i64 br,.bool pc,.int .i64 cv,.int .i64 ea] 33)) g l told pic _ wd rr k p:=⟨HG.out.1.alloc (.cells #[.int .i64 br,.bool pc,.int .i64 cv,.int .i64 ea] 33),HG.out.2⟩;rw [<-hW] at hg;have FG:=ab (show WAt W g l told pic _ wd rr k p from hg);have HL:=ab hl;have p0:=aj (hb.cell 0 _ rfl);have p1:=aj (hb.cell 1 _ rfl);have p2:=aj (hb.cell 2 _ rfl);have p3:=aj (hb.cell 3 _ rfl);have s2:=aj hg.cells.2.2.2.1;have f0:=aD (by simpa using hg.lt) (hg.1.free 17);have f1:=aD (by simpa using hg.lt) (hg.1.free 18);have f2:=aD (by simpa using hg.lt) (hg.1.free 19);have c0:=aj hg.cells.2.1;have c1:=aj hg.cells.2.2.1;have HX:=ab (show ∀ u:Growth W,WAt (ext W u) g l told pic _ wd rr k p from fun u=>FG.out.below u.ok);clear hg hb hl hW;refine aC 15 (by kernel_rfl) (by simp) (by kernel_rfl) (by kernel_rfl) (by kernel_rfl) (by kernel_rfl) (by kernel_rfl) ?_;simp only [List.take_succ_cons,List.take_zero,List.drop_succ_cons,List.drop_zero]
  repeat (go_big_quiet_step ((go_at_call 194;exact dY (HW.out _ (HX.out _)))))
  refine wpQuiet_nil ?_;intro _ hw';obtain ⟨u,hw''⟩:=hw';subst hw'';have hg3:WAt (ext W u) g l told pic _ wd rr k p:=FG.out.below u.ok;have Ci:=aW HL.out u;have hz:=fun x=>hg3.gauge true pc x
  have HZ:=ab hz;have BR:=ab Ci;clear hz hg3 Ci FG HX HW;go_wp2;go_ret;exact ⟨af,(HZ.out _).1,(But.ofBelow BR.out).trans ((HZ.out _).2.mono BR.out.size)⟩
end
end Go.Proofs.YtoeggiplcaegoaaGreatDoor
