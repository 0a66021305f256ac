import Derived.Test.YtoeggiplcaegoaaGreatDoorZ0
import Derived.Test.YtoeggiplcaegoaaGreatDoorMg1
import Derived.Lib.MinMax
import Derived.Test.YtoeggiplcaegoaaGreatDoorMg4
set_option maxRecDepth 100000
set_option linter.unusedVariables false
set_option linter.unusedSimpArgs false
set_option maxHeartbeats 1600000
namespace Go.Proofs.YtoeggiplcaegoaaGreatDoor
open Go.RowKit Go.ChangeShapes Go.WideShapes
def fk{α:Type}(E:Elem α)(Z:an)(ty:TypeId)(w:World)(L:List α)(e:Ending)(w':World):Prop:=∃ v',e=.returned v'/\OwnE E Z w' w.heap.size ty v' L/\Below w.heap.size w w'
theorem j5(C:List Value)(h0:0<C.length)(n:Nat):(madeCells C.toArray (n * C.length)).toList=(List.replicate n C).flatten:=by
 apply List.ext_getElem?
 intro i;have EM:∀ D ∈ List.replicate n C,D.length=C.length:=fun D hD=>by rw [(List.mem_replicate.1 hD).2]
 by_cases hi:i<n * C.length
 ·have hd:i / C.length<n:=(Nat.div_lt_iff_lt_mul h0).2 hi;have hm:i % C.length<C.length:=Nat.mod_lt _ h0;have:=fX EM (i / C.length) (i % C.length) (by simpa using hd) hm;rw [show i / C.length * C.length+i % C.length=i by rw [Nat.mul_comm];exact Nat.div_add_mod i C.length] at this;rw [this]
  simp [madeCells,hi,List.getD,hd,List.getElem?_replicate,List.getElem?_eq_getElem hm]
 ·rw [List.getElem?_eq_none (by simp [madeCells];omega),List.getElem?_eq_none (by rw [eq EM];simp;omega)]
theorem lL(Z:an)(w:World):cellE.rep Z w [.int .i64 0,.slice none 0 0] zc:=cell_rep.2 ⟨_,rfl,HeldE.nil _ _ _⟩
theorem mV{Z:an}{w:World}{B n:Nat}{v:Value}(h:w.ownsRow B 147 2 v n (madeCells (Value.agg #[.int .i64 0,.slice none 0 0]).cells (n * 2)).toList):OwnE cellE Z w B 147 v (List.replicate n zc):=by
 refine ⟨List.replicate n [.int .i64 0,.slice none 0 0],?_,by simp,fun i hi=>?_⟩
 ·rw [<-j5 _ (by decide),List.length_replicate];exact h
 ·simp only [List.length_replicate] at hi;simp only [List.getD,List.getElem?_replicate,hi,if_true,Option.getD_some];exact lL _ _
def j6(n:Int):Nat:=(min (max n 0) 1024).toNat
theorem iO(Z:an)(n:Int)(w:World):Calls Tryz.prog 189 #[.int .i64 n] w (fk cellE Z 147 w (List.replicate (j6 n) zc)):=by
 obtain ⟨i0,hi,hz0,hz1,hz2⟩:=info_parts cD;have key:∀ m:Nat,m<=1024->min (max n 0) 1024=(m:Int)->Calls Tryz.prog 189 #[.int .i64 n] w (fk cellE Z 147 w (List.replicate m zc)):=by
  intro m hm he
  go_enter Tryz.func189,Tryz.ntmps189
  go_wp2_with (at_make;refine wpList_make_full w rfl (.tmp 5) (.tmp 5) 102 rfl w.heap.size 147 i0 (.agg #[.int .i64 0,.slice none 0 0]) 2 Tryz.underlying102 hi hz0 hz1 .i64 .i64 _ _ m rfl rfl rfl rfl (by rw [hz2];omega) (by unfold maxLen;omega) (Nat.le_refl _) ?_)
  intro w1 hown1 hg1;have hb1:Below w.heap.size w w1:=(Below.refl _ _).grown hg1 (Nat.le_refl _) (by intro k hk;cases hk);have ho:=mV (Z:=Z) hown1;clear hown1 hg1;go_wp2;go_ret;exact ⟨_,rfl,ho,hb1⟩
 have:=key (j6 n) (by unfold j6;omega) (by unfold j6;omega);exact this
theorem iW(Z:an)(v:Value)(xs:List Int)(w:World)(hv:HeldE (aE .i32) Z w v xs)(hZ:∀ b,Z b->b<w.heap.size)(h0:0<xs.length)(hl:xs.length<=1000000):Calls Tryz.prog 92 #[v] w (iI 21 .i32 w (xs.take 16)):=by
 obtain ⟨ao,ca,rfl,Bg,hmx,_⟩:=id hv;obtain ⟨b,off,rfl,hb,_⟩:=hv.ints.spots 0 h0;obtain ⟨K,hK⟩:=ae (min xs.length 16);have HP:=ab (show HeldE (aE .i32) Z w (.slice (some ⟨b,off,none⟩) K ca) (xs.take K) from by
  have hp:=hv.part 0 K (Nat.zero_le _) (by omega) (some ⟨b,off,none⟩) ca (fun h=>by cases h) (fun b' o' h _=>by cases h;simp) (fun _ _=>by simp) (by omega) hmx
  simpa using hp)
 have HT:=ab (show xs.take K=xs.take 16 from by
  rw [hK]
  by_cases h:xs.length<=16
  ·rw [Nat.min_eq_left h,List.take_of_length_le (Nat.le_refl _),List.take_of_length_le h]
  ·rw [Nat.min_eq_right (by omega)])
 have M8:=ab (show (xs.take K).length=K from by rw [List.length_take];omega);obtain ⟨n,hn⟩:=ae (xs.length);rw [<-hn] at Bg hK h0 hl ⊢;have hmin:min (n:Int) 16=(K:Int):=by omega
 have Nf:K<=ca:=by omega
 have hKi:(K:Int)<=(ca:Int):=by omega
 have hK16:K<=16:=by omega
 have HZ:=ab hZ;obtain ⟨XK,II⟩:=ae (xs.take K);rw [<-II] at HP HT M8;have hb1:=zI w (.cells #[] 21);have AA:OwnE (aE .i32) (fun _=>True) (w.alloc (.cells #[] 21)) w.heap.size 21 (.slice (some ⟨w.heap.size,0,none⟩) 0 0) []:=OwnE.empty (World.ownsRow_lit w #[] 0 (Nat.le_refl _) (by decide) rfl);have A4:=ab AA;have ML:=ab (show HeldE (aE .i32) (fun b9=>True/\(Value.slice (some ⟨w.heap.size,0,none⟩) 0 0).ownBlock≠some b9) (w.alloc (.cells #[] 21)) _ XK from (HP.out.below hb1).zone (fun b9 _ h=>⟨trivial,fun e=>by have h9:=(A4.out.lt _ e).1;have:=HZ.out b9 h;omega⟩));have Ah:=ab hb1;clear hv hn hK II hZ hb1 AA hmx hb
 go_enter Tryz.func92,Tryz.ntmps92
 go_wp2_with (at_builtin;refine aw (E:=aE .i32) (Z:=fun _=>True) rfl (.tmp 3) (.tmp 8) 27 rfl (.int .i32 0) 4 Tryz.underlying27 fw rfl (by decide) rfl rfl A4.out ML.out (by rw [M8.out];simp only [List.length_nil];omega) (by rw [M8.out];simp only [List.length_nil];omega) Ah.out.size ?_)
 intro v2 w2 Ap b2 _ _
 try rw [List.nil_append] at Ap
 have HR:=ab (show iI 21 .i32 w (xs.take 16) (.returned v2) w2 from by rw [<-HT.out];exact ⟨v2,rfl,Ap.ints,Ah.out.trans b2⟩);clear Ap b2;go_wp2;go_ret;exact HR.out
theorem qf(Z:an)(v:Value)(T:List Int)(w:World)(hv:HeldE (aE .i32) Z w v T)(hZ:∀ b,Z b->b<w.heap.size)(h0:0<T.length)(hl:T.length<=1000000)(hr:bI T):Calls Tryz.prog 97 #[v] w (Gives w (.int .i64 (wdC T))):=by
 obtain ⟨ao,ca,rfl⟩:=hv.len;obtain ⟨b,off,rfl,_,c0⟩:=hv.ints.spots 0 h0;rw [Nat.add_zero] at c0;have HF:=ab (fun w' (h:Below w.heap.size w w')=>iW Z _ T w' (hv.below h) (fun b hb=>Nat.lt_of_lt_of_le (hZ b hb) h.size) h0 hl);have HS:=ab (ek (T.getD 0 0));have Fh:=yZ T;have HW:=ab (show bL (T.getD 0 0)=false->j7 (T.take 16) (aq (T.take 16)) (T.take 16).length=wdC T from fun h=>by unfold wdC;rw [if_neg (by rw [h];decide)]);have HT:=ab (show (T.take 16).length<=1000000 by rw [List.length_take];omega);have HR:=ab (show bI (T.take 16) from fun i hi=>by
  rw [List.length_take] at hi;have:=hr i (by omega);rw [show (T.take 16).getD i 0=T.getD i 0 from by simp [List.getD,List.getElem?_take,show i<16 by omega]];exact this)
 obtain ⟨x,hx⟩:=ae (T.getD 0 0);rw [<-hx] at c0 HS Fh HW;obtain ⟨n,hn⟩:=ae (T.length);rw [<-hn] at HF h0 hl ⊢;obtain ⟨F,hF⟩:=ae (T.take 16);rw [<-hF] at HF HW HT HR;obtain ⟨W,hW⟩:=ae (wdC T);rw [<-hW] at Fh HW ⊢;clear hv hx hn hF hW hZ hr
 rcases Fh with ⟨hs,hw0⟩ | ⟨hs,Cd,hw2⟩
 ·have HZ:=ab hw0;rw [hs] at HS;clear hs hw0
  go_enter Tryz.func97,Tryz.ntmps97
  go_wp2_with fail
  refine (HS.out w).mono ?_;rintro e w1 ⟨rfl,b1⟩;have HB:=ab b1;clear b1;go_wp2;go_ret;exact ⟨al (by rw [HZ.out];try rfl),HB.out⟩
 ·have HE:=ab (HW.out hs);rw [hs] at HS;clear hs Cd hw2
  go_enter Tryz.func97,Tryz.ntmps97
  go_wp2_with fail
  refine (HS.out w).mono ?_;rintro e w1 ⟨rfl,b1⟩;have HB:=ab b1;clear b1 c0
  go_wp2_with fail
  refine (HF.out w1 HB.out).mono ?_;rintro e w2 ⟨v2,rfl,Ap,b2⟩;have hc:=tX v2 F w2 (dO Ap) HT.out HR.out;rw [HE.out] at hc;have AM:=ab (HB.out.trans (b2.mono HB.out.size));clear Ap b2
  go_wp2_with fail
  refine hc.mono ?_;rintro e w3 ⟨rfl,b3⟩;have BD:=ab (AM.out.trans (b3.mono AM.out.size));clear b3 hc;go_wp2;go_ret;exact ⟨af,BD.out⟩
end Go.Proofs.YtoeggiplcaegoaaGreatDoor
