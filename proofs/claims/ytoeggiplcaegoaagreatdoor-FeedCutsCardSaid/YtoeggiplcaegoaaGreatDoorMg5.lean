import Derived.Test.YtoeggiplcaegoaaGreatDoorZ0
import Derived.Test.YtoeggiplcaegoaaGreatDoorMg1
import Derived.Lib.MinMax
import Derived.Test.YtoeggiplcaegoaaGreatDoorMg4
import Derived.Test.YtoeggiplcaegoaaGreatDoorProg
import Derived.Lib.SmallJoins
import Derived.Shelf.Sort.Plain
import Derived.Ground.Names2Prog
import Derived.Shelf.Slices.In.SortNone
import Derived.Ground.SlbCloneProg
import Derived.Shelf.Bytes.SlClone
set_option maxRecDepth 100000
set_option linter.unusedVariables false
set_option linter.unusedSimpArgs false
set_option maxHeartbeats 1600000
namespace Go.Proofs.YtoeggiplcaegoaaGreatDoor
open Go.RowKit Go.ChangeShapes Go.WideShapes
def fp{α:Type}(E:Elem α)(Z:an)(ty:TypeId)(w:World)(L:List α)(e:Ending)(w':World):Prop:=∃ v',e=.returned v'/\OwnE E Z w' w.heap.size ty v' L/\Below w.heap.size w w'
theorem kh(C:List Value)(h0:0<C.length)(n:Nat):(madeCells C.toArray (n * C.length)).toList=(List.replicate n C).flatten:=by
 apply List.ext_getElem?
 intro i;have Fb:∀ D ∈ List.replicate n C,D.length=C.length:=fun D hD=>by rw [(List.mem_replicate.1 hD).2]
 by_cases hi:i<n * C.length
 ·have hd:i / C.length<n:=(Nat.div_lt_iff_lt_mul h0).2 hi;have hm:i % C.length<C.length:=Nat.mod_lt _ h0;have:=gm Fb (i / C.length) (i % C.length) (by simpa using hd) hm;rw [show i / C.length * C.length+i % C.length=i by rw [Nat.mul_comm];exact Nat.div_add_mod i C.length] at this;rw [this]
  simp [madeCells,hi,List.getD,hd,List.getElem?_replicate,List.getElem?_eq_getElem hm]
 ·rw [List.getElem?_eq_none (by simp [madeCells];omega),List.getElem?_eq_none (by rw [ew Fb];simp;omega)]
theorem l7(Z:an)(w:World):cellE.rep Z w [.int .i64 0,.slice none 0 0] zc:=cell_rep.2 ⟨_,rfl,HeldE.nil _ _ _⟩
theorem nk{Z:an}{w:World}{B n:Nat}{v:Value}(h:w.ownsRow B 147 2 v n (madeCells (Value.agg #[.int .i64 0,.slice none 0 0]).cells (n * 2)).toList):OwnE cellE Z w B 147 v (List.replicate n zc):=by
 refine ⟨List.replicate n [.int .i64 0,.slice none 0 0],?_,by simp,fun i hi=>?_⟩
 ·rw [<-kh _ (by decide),List.length_replicate];exact h
 ·simp only [List.length_replicate] at hi;simp only [List.getD,List.getElem?_replicate,hi,if_true,Option.getD_some];exact l7 _ _
def ki(n:Int):Nat:=(min (max n 0) 1024).toNat
theorem iV(Z:an)(n:Int)(w:World):Calls Tryz.prog 189 #[.int .i64 n] w (fp cellE Z 147 w (List.replicate (ki n) zc)):=by
 obtain ⟨i0,hi,hz0,hz1,hz2⟩:=info_parts cF;have key:∀ m:Nat,m<=1024->min (max n 0) 1024=(m:Int)->Calls Tryz.prog 189 #[.int .i64 n] w (fp cellE Z 147 w (List.replicate m zc)):=by
  intro m hm he
  go_enter Tryz.func189,Tryz.ntmps189
  go_wp2_with (at_make;refine wpList_make_full w rfl (.tmp 5) (.tmp 5) 102 rfl w.heap.size 147 i0 (.agg #[.int .i64 0,.slice none 0 0]) 2 Tryz.underlying102 hi hz0 hz1 .i64 .i64 _ _ m rfl rfl rfl rfl (by rw [hz2];omega) (by unfold maxLen;omega) (Nat.le_refl _) ?_)
  intro w1 hown1 hg1;have hb1:Below w.heap.size w w1:=(Below.refl _ _).grown hg1 (Nat.le_refl _) (by intro k hk;cases hk);have ho:=nk (Z:=Z) hown1;clear hown1 hg1;go_wp2;go_ret;exact ⟨_,rfl,ho,hb1⟩
 have:=key (ki n) (by unfold ki;omega) (by unfold ki;omega);exact this
theorem mo(Z:an)(v:Value)(xs:List Int)(w:World)(hv:HeldE (aF .i32) Z w v xs)(hZ:∀ b,Z b->b<w.heap.size)(h0:0<xs.length)(hl:xs.length<=1000000):Calls Tryz.prog 92 #[v] w (j6 21 .i32 w (xs.take 16)):=by
 obtain ⟨ao,ca,rfl,Cd,hmx,_⟩:=id hv;obtain ⟨b,off,rfl,hb,_⟩:=hv.ints.spots 0 h0;obtain ⟨K,hK⟩:=ae (min xs.length 16);have HP:=ab (show HeldE (aF .i32) Z w (.slice (some ⟨b,off,none⟩) K ca) (xs.take K) from by
  have hp:=hv.part 0 K (Nat.zero_le _) (by omega) (some ⟨b,off,none⟩) ca (fun h=>by cases h) (fun b' o' h _=>by cases h;simp) (fun _ _=>by simp) (by omega) hmx
  simpa using hp)
 have HT:=ab (show xs.take K=xs.take 16 from by
  rw [hK]
  by_cases h:xs.length<=16
  ·rw [Nat.min_eq_left h,List.take_of_length_le (Nat.le_refl _),List.take_of_length_le h]
  ·rw [Nat.min_eq_right (by omega)])
 have Ot:=ab (show (xs.take K).length=K from by rw [List.length_take];omega);obtain ⟨n,hn⟩:=ae (xs.length);rw [<-hn] at Cd hK h0 hl ⊢;have hmin:min (n:Int) 16=(K:Int):=by omega
 have NO:K<=ca:=by omega
 have hKi:(K:Int)<=(ca:Int):=by omega
 have hK16:K<=16:=by omega
 have HZ:=ab hZ;obtain ⟨XK,IX⟩:=ae (xs.take K);rw [<-IX] at HP HT Ot;have hb1:=AU w (.cells #[] 21);have BX:OwnE (aF .i32) (fun _=>True) (w.alloc (.cells #[] 21)) w.heap.size 21 (.slice (some ⟨w.heap.size,0,none⟩) 0 0) []:=OwnE.empty (World.ownsRow_lit w #[] 0 (Nat.le_refl _) (by decide) rfl);have Cg:=ab BX;have Qp:=ab (show HeldE (aF .i32) (fun b9=>True/\(Value.slice (some ⟨w.heap.size,0,none⟩) 0 0).ownBlock≠some b9) (w.alloc (.cells #[] 21)) _ XK from (HP.out.below hb1).zone (fun b9 _ h=>⟨trivial,fun e=>by have h9:=(Cg.out.lt _ e).1;have:=HZ.out b9 h;omega⟩));have Bt:=ab hb1;clear hv hn hK IX hZ hb1 BX hmx hb
 go_enter Tryz.func92,Tryz.ntmps92
 go_wp2_with (at_builtin;refine ax (E:=aF .i32) (Z:=fun _=>True) rfl (.tmp 3) (.tmp 8) 27 rfl (.int .i32 0) 4 Tryz.underlying27 kZ rfl (by decide) rfl rfl Cg.out Qp.out (by rw [Ot.out];simp only [List.length_nil];omega) (by rw [Ot.out];simp only [List.length_nil];omega) Bt.out.size ?_)
 intro v2 w2 BE b2 _ _
 try rw [List.nil_append] at BE
 have HR:=ab (show j6 21 .i32 w (xs.take 16) (.returned v2) w2 from by rw [<-HT.out];exact ⟨v2,rfl,BE.ints,Bt.out.trans b2⟩);clear BE b2;go_wp2;go_ret;exact HR.out
theorem qF(Z:an)(v:Value)(T:List Int)(w:World)(hv:HeldE (aF .i32) Z w v T)(hZ:∀ b,Z b->b<w.heap.size)(h0:0<T.length)(hl:T.length<=1000000)(hr:cQ T):Calls Tryz.prog 97 #[v] w (Gives w (.int .i64 (wdC T))):=by
 obtain ⟨ao,ca,rfl⟩:=hv.len;obtain ⟨b,off,rfl,_,c0⟩:=hv.ints.spots 0 h0;rw [Nat.add_zero] at c0;have HF:=ab (fun w' (h:Below w.heap.size w w')=>mo Z _ T w' (hv.below h) (fun b hb=>Nat.lt_of_lt_of_le (hZ b hb) h.size) h0 hl);have HS:=ab (eY (T.getD 0 0));have Fs:=Ai T;have HW:=ab (show bT (T.getD 0 0)=false->kj (T.take 16) (aq (T.take 16)) (T.take 16).length=wdC T from fun h=>by unfold wdC;rw [if_neg (by rw [h];decide)]);have HT:=ab (show (T.take 16).length<=1000000 by rw [List.length_take];omega);have HR:=ab (show cQ (T.take 16) from fun i hi=>by
  rw [List.length_take] at hi;have:=hr i (by omega);rw [show (T.take 16).getD i 0=T.getD i 0 from by simp [List.getD,List.getElem?_take,show i<16 by omega]];exact this)
 obtain ⟨x,hx⟩:=ae (T.getD 0 0);rw [<-hx] at c0 HS Fs HW;obtain ⟨n,hn⟩:=ae (T.length);rw [<-hn] at HF h0 hl ⊢;obtain ⟨F,hF⟩:=ae (T.take 16);rw [<-hF] at HF HW HT HR;obtain ⟨W,hW⟩:=ae (wdC T);rw [<-hW] at Fs HW ⊢;clear hv hx hn hF hW hZ hr
 rcases Fs with ⟨hs,hw0⟩ | ⟨hs,Da,hw2⟩
 ·have HZ:=ab hw0;rw [hs] at HS;clear hs hw0
  go_enter Tryz.func97,Tryz.ntmps97
  go_wp2_with fail
  refine (HS.out w).mono ?_;rintro e w1 ⟨rfl,b1⟩;have HB:=ab b1;clear b1;go_wp2;go_ret;exact ⟨al (by rw [HZ.out];try rfl),HB.out⟩
 ·have HE:=ab (HW.out hs);rw [hs] at HS;clear hs Da hw2
  go_enter Tryz.func97,Tryz.ntmps97
  go_wp2_with fail
  refine (HS.out w).mono ?_;rintro e w1 ⟨rfl,b1⟩;have HB:=ab b1;clear b1 c0
  go_wp2_with fail
  refine (HF.out w1 HB.out).mono ?_;rintro e w2 ⟨v2,rfl,BE,b2⟩;have hc:=u0 v2 F w2 (bF BE) HT.out HR.out;rw [HE.out] at hc;have BY:=ab (HB.out.trans (b2.mono HB.out.size));clear BE b2
  go_wp2_with fail
  refine hc.mono ?_;rintro e w3 ⟨rfl,b3⟩;have CJ:=ab (BY.out.trans (b3.mono BY.out.size));clear b3 hc;go_wp2;go_ret;exact ⟨af,CJ.out⟩
section
open Go.Shelf
def qU:Go.Shelf.Ren:=⟨fun | 189=>93 | 125=>160 | 257=>159 | 128=>220 | 129=>221 | 294=>211 | 295=>212 | 296=>213 | 297=>214 | 298=>215 | 299=>216 | 216=>217 | 300=>218 | 301=>219 | 328=>256 | 329=>257 | 330=>258 | 331=>259 | 332=>260 | 215=>261 | 343=>289 | n=>n,fun | 28=>76 | 3=>3 | 46=>212 | 0=>0 | 51=>265 | 53=>62 | 4=>4 | 183=>257 | 182=>256 | 131=>262 | 5=>5 | 9=>9 | 218=>311 | 222=>315 | 228=>339 | 229=>29 | n=>n,fun | n=>n⟩
theorem tf:Go.Proofs.Lays.n189 Tryz.prog qU:={
 mixed:=by kernel_rfl
 f125:=Tryz.func160.trans (congrArg some (by kernel_rfl))
 f128:=Tryz.func220.trans (congrArg some (by kernel_rfl))
 f129:=Tryz.func221.trans (congrArg some (by kernel_rfl))
 f189:=Tryz.func93.trans (congrArg some (by kernel_rfl))
 f215:=Tryz.func261.trans (congrArg some (by kernel_rfl))
 f216:=Tryz.func217.trans (congrArg some (by kernel_rfl))
 f257:=Tryz.func159.trans (congrArg some (by kernel_rfl))
 f294:=Tryz.func211.trans (congrArg some (by kernel_rfl))
 f295:=Tryz.func212.trans (congrArg some (by kernel_rfl))
 f296:=Tryz.func213.trans (congrArg some (by kernel_rfl))
 f297:=Tryz.func214.trans (congrArg some (by kernel_rfl))
 f298:=Tryz.func215.trans (congrArg some (by kernel_rfl))
 f299:=Tryz.func216.trans (congrArg some (by kernel_rfl))
 f300:=Tryz.func218.trans (congrArg some (by kernel_rfl))
 f301:=Tryz.func219.trans (congrArg some (by kernel_rfl))
 f328:=Tryz.func256.trans (congrArg some (by kernel_rfl))
 f329:=Tryz.func257.trans (congrArg some (by kernel_rfl))
 f330:=Tryz.func258.trans (congrArg some (by kernel_rfl))
 f331:=Tryz.func259.trans (congrArg some (by kernel_rfl))
 f332:=Tryz.func260.trans (congrArg some (by kernel_rfl))
 f343:=Tryz.func289.trans (congrArg some (by kernel_rfl))
 t0:=Tryz.underlying0
 a0:=Tryz.isAgg0
 z0:=Tryz.sizeOf0
 v0:=Tryz.zeroValue0
 t3:=Tryz.underlying3
 a3:=Tryz.isAgg3
 z3:=Tryz.sizeOf3
 v3:=Tryz.zeroValue3
 t4:=Tryz.underlying4
 a4:=Tryz.isAgg4
 z4:=Tryz.sizeOf4
 v4:=Tryz.zeroValue4
 t5:=Tryz.underlying5
 a5:=Tryz.isAgg5
 z5:=Tryz.sizeOf5
 v5:=Tryz.zeroValue5
 t9:=Tryz.underlying9
 a9:=Tryz.isAgg9
 z9:=Tryz.sizeOf9
 v9:=Tryz.zeroValue9
 t28:=Tryz.underlying76
 a28:=Tryz.isAgg76
 z28:=Tryz.sizeOf76
 v28:=Tryz.zeroValue76
 t46:=Tryz.underlying212
 a46:=Tryz.isAgg212
 z46:=Tryz.sizeOf212
 v46:=Tryz.zeroValue212
 t51:=Tryz.underlying265
 a51:=Tryz.isAgg265
 z51:=Tryz.sizeOf265
 v51:=Tryz.zeroValue265
 t53:=Tryz.underlying62
 a53:=Tryz.isAgg62
 z53:=Tryz.sizeOf62
 v53:=Tryz.zeroValue62
 t131:=Tryz.underlying262
 a131:=Tryz.isAgg262
 z131:=Tryz.sizeOf262
 v131:=Tryz.zeroValue262
 t182:=Tryz.underlying256
 a182:=Tryz.isAgg256
 z182:=Tryz.sizeOf256
 v182:=Tryz.zeroValue256
 t183:=Tryz.underlying257
 a183:=Tryz.isAgg257
 z183:=Tryz.sizeOf257
 v183:=Tryz.zeroValue257
 t218:=Tryz.underlying311
 a218:=Tryz.isAgg311
 z218:=Tryz.sizeOf311
 v218:=Tryz.zeroValue311
 t222:=Tryz.underlying315
 a222:=Tryz.isAgg315
 z222:=Tryz.sizeOf315
 v222:=Tryz.zeroValue315
 t228:=Tryz.underlying339
 a228:=Tryz.isAgg339
 z228:=Tryz.sizeOf339
 v228:=Tryz.zeroValue339
 t229:=Tryz.underlying29
 a229:=Tryz.isAgg29
 z229:=Tryz.sizeOf29
 v229:=Tryz.zeroValue29 }
open Go.Sort Go.RowKit in
theorem slices_Sort_int(blk off cap:Nat)(zs:List Int)(w:World)(hH:Holds (Value.int .i64) w blk off zs.toArray)(hblk:blk<w.heap.size)(hsz:zs.length<4611686018427387904) :
 Calls Tryz.prog 93 #[.slice (some ⟨blk,off,none⟩) zs.length cap] w fun e w' =>
  e=.returned (.tuple #[])/\∃ n os,w'=grow (putRow (Value.int .i64) (Sort.ahead w n) blk off (zs.mergeSort fun x y=>decide (x<=y)).toArray) os:=Any.slices_Sort_int tf blk off cap zs w hH hblk hsz
open Go.RowKit Go.Sort in
theorem slices_Sort_int_none(p:Option Addr)(cap:Nat)(w:World) :
 Calls Tryz.prog 93 #[.slice p 0 cap] w fun e w'=>e=.returned (.tuple #[])/\w'=w:=Any.slices_Sort_int_none tf p cap w
def oZ:Go.Shelf.Ren:=⟨fun | 4=>94 | n=>n,fun | 22=>55 | 4=>4 | 5=>5 | n=>n,fun | n=>n⟩
theorem qV:Go.Proofs.SlLaysK.n4 Tryz.prog oZ:={
 mixed:=by kernel_rfl
 f4:=Tryz.func94.trans (congrArg some (by kernel_rfl))
 t4:=Tryz.underlying4
 a4:=Tryz.isAgg4
 z4:=Tryz.sizeOf4
 v4:=Tryz.zeroValue4
 t22:=Tryz.underlying55
 a22:=Tryz.isAgg55
 z22:=Tryz.sizeOf55
 v22:=Tryz.zeroValue55
 t5:=Tryz.underlying5
 i5:=by kernel_rfl }
open Go.RowKit Go.Lib in
theorem bytes_Clone_at(a:Addr)(n c:Nat)(xs:List Int)(w:World)(hx:xs.length=n)(hbig:n<=140737488355328)(hc:∀ i,i<n->w.cell? (a.add i)=some (.int .u8 (xs.getD i 0))) :
 Calls Tryz.prog 94 #[.slice (some a) n c] w fun e w'=>∃ v',e=.returned v'/\w'.ownsRow w.heap.size 5 1 v' n (xs.map (Value.int .u8))/\v'≠.slice none 0 0/\Below w.heap.size w w':=Any.bytes_Clone_at qV a n c xs w hx hbig hc
open Go.RowKit Go.Lib in
theorem bytes_Clone_nil(n c:Nat)(w:World) :
 Calls Tryz.prog 94 #[.slice none n c] w fun e w'=>e=.returned (.slice none 0 0)/\w'=w:=Any.bytes_Clone_nil qV n c w
end
end Go.Proofs.YtoeggiplcaegoaaGreatDoor
