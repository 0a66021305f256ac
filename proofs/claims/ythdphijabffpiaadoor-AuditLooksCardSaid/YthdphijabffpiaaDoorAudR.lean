import Derived.Test.YthdphijabffpiaaDoorZ0
import Derived.Test.YthdphijabffpiaaDoorMg5
import Derived.Test.YthdphijabffpiaaDoorMg1
import Derived.Lib.MinMax
import Derived.Deep.Cut
set_option maxRecDepth 100000
set_option linter.unusedVariables false
set_option linter.unusedSimpArgs false
set_option maxHeartbeats 6000000
namespace Go.Proofs.YthdphijabffpiaaDoor
open Go.RowKit Go.ChangeShapes Go.WideShapes
abbrev Fd:=Int × Int × Int
def foundE:Elem Fd:=prE (bE .i64) (prE (bE .i64) (bE .i64))
def aF(x:Fnd):Fd:=(x.1.headD (-1),x.1.tail.headD (-1),(x.2:Int))
theorem aS:(Tryd.prog.info? 41).map (fun i=>(i.zero,i.size,i.bytes))=some (some (.agg #[.int .i64 0,.int .i64 0,.int .i64 0]),foundE.size,24):=by kernel_rfl
theorem d9{Z:al}{w:World}{a b c:Int}:foundE.rep Z w [.int .i64 a,.int .i64 b,.int .i64 c] (a,b,c):=⟨[.int .i64 a],[.int .i64 b,.int .i64 c],rfl,rfl,[.int .i64 b],[.int .i64 c],rfl,rfl,rfl⟩
theorem az{L:List Fd}(h:L.length<1000000000):(L.length+1) * 24<=140737488355328/\L.length+1<=140737488355328:=by omega
theorem aU{w:World}{B:Nat}{sv:Value}{L:List Fd}(ho:OwnE foundE (fun _=>True) w B 41 sv L)(a b c:Int) :
  HeldE foundE (fun x=>True/\sv.ownBlock≠some x) (w.alloc (.cells [Value.int .i64 a,.int .i64 b,.int .i64 c].toArray 41)) (.slice (some ⟨w.heap.size,0,none⟩) 1 1) [(a,b,c)]/\OwnE foundE (fun _=>True) (w.alloc (.cells [Value.int .i64 a,.int .i64 b,.int .i64 c].toArray 41)) B 41 sv L :=
 ⟨bA (E:=foundE) (Y:=fun _=>False) [.int .i64 a,.int .i64 b,.int .i64 c] (a,b,c) d9 (fun _ _ h=>h.elim) ⟨trivial,fun e=>by have:=(ho.lt _ e).2;omega⟩,ho.below (af _ _)⟩
theorem ea(v:Vw)(lv:Value)(w:World)(hv:ViewAt w v lv)(hN:(ay v).length+1<=1000000000):Calls Tryd.prog 12 #[bh v lv] w (eS foundE (fun _=>True) 41 w ((ay v).map aF)):=by
 obtain ⟨vw,vh,Ls,r,c,pd,au⟩:=v;obtain ⟨fP,w0,w1,h0,h1⟩:=hv;simp only at fP w0 w1 h0 h1;have j0:=fP.max;unfold bh;simp only;obtain ⟨lo,lc,rfl⟩:=fP.len;have hlc:=(aW fP).2.1;have hZ:=aa (aW fP).2.2;have iO:=aa (fun (w':World)=>de r c pd vw vh w');obtain ⟨n,hn⟩:=ab (Ls.length);have fD:=aa hn;have ju:=aa hN;rw [<-hn] at hlc j0 hZ ⊢;obtain ⟨W1,hW1⟩:=ab (w.alloc (.cells [Value.int .i64 vw,.int .i64 vh,.slice lo n lc,.int .i64 r,.int .i64 c,.bool pd,.bool au].toArray 26));obtain ⟨gv,gN⟩:=ab (w.heap.size);have hb1:Below w.heap.size w W1:=by rw [hW1];exact af _ _
 have fO:Has W1 gv [.int .i64 vw,.int .i64 vh,.slice lo n lc,.int .i64 r,.int .i64 c,.bool pd,.bool au] 26:=by rw [hW1,gN];exact Has.new w _ _
 have HV:=aa fO;have HB:=aa hb1;have fB:w.alloc (.cells #[Value.int .i64 vw,.int .i64 vh,.slice lo n lc,.int .i64 r,.int .i64 c,.bool pd,.bool au] 26)=W1:=hW1.symm;have jt:=aa gN;clear hW1 hb1 fO gN hn fP hN;obtain ⟨B,jA⟩:=ab (W1.heap.size);have fy:=aa jA;have iA:=aa (show gv<B from by rw [jA];exact HV.out.lt);have iX:=aa (show w.heap.size<=B from by rw [jA];exact HB.out.size);have ia:=aa (show ∀ t:List Fnd,(∃ s,ay ⟨vw,vh,Ls,r,c,pd,au⟩=t++s)->(t.map aF).length<1000000000 from fun t h=>by
  obtain ⟨s,hs⟩:=h;have:=ju.out;rw [hs,List.length_append] at this;rw [List.length_map];omega)
 have ik:=aa (show Below B W1 W1 from Below.refl _ _);obtain ⟨bad,gA⟩ : ∃ bad,bad = !(aq vw && aq vh && (vh == (n:Int))):=⟨_,rfl⟩;have fr:=aa gA;have HHF:=aa (show aO ⟨vw,vh,Ls,r,c,pd,au⟩=if bad=true then [([],3)] else [] from by
  unfold aO;simp only;rw [<-fD.out,gA]
  by_cases h:aq vw=true/\aq vh=true/\vh=(n:Int)
  ·rw [if_pos h,h.1,h.2.1,h.2.2];simp
  ·rw [if_neg h,if_pos]
   cases hq:(aq vw && aq vh && (vh == (n:Int))) with
   |false=>rfl
   |true =>
    rw [Bool.and_eq_true,Bool.and_eq_true,beq_iff_eq] at hq;exact absurd ⟨hq.1.1,hq.1.2,hq.2⟩ h)
 clear gA jA
 go_enter Tryd.func12,Tryd.ntmps12
 go_upto_region 2 with (fail)
 rw [<-jt.out];clear fB
 go_cut [32] from 7 to 32 (fun tv wx=>tv=.bool bad/\wx=W1)
 case first =>
  have q0:=HV.out.cell 0 _ rfl;have q1:=HV.out.cell 1 _ rfl;have q2:=HV.out.cell 2 _ rfl
  by_cases t4:vw<1
  ·have d4:decide (vw<1)=true:=decide_eq_true t4;have fY:=aa (show bad=true from by rw [fr.out,show aq vw=false from by unfold aq;rw [show decide (1<=vw)=false from decide_eq_false (by omega)];rfl];rfl);clear t4
   go_wp2_with fail
   go_meet;exact ⟨by rw [fY.out],rfl⟩
  ·have d4:decide (vw<1)=false:=decide_eq_false t4
   by_cases t5:1024<vw
   ·have d5:decide (1024<vw)=true:=decide_eq_true t5;have fY:=aa (show bad=true from by rw [fr.out,show aq vw=false from by unfold aq;rw [show decide (vw<=1024)=false from decide_eq_false (by omega),Bool.and_false]];rfl);clear t4 t5
    go_wp2_with fail
    go_meet;exact ⟨by rw [fY.out],rfl⟩
   ·have d5:decide (1024<vw)=false:=decide_eq_false t5;have HSW:=aa (show aq vw=true from by unfold aq;rw [show decide (1<=vw)=true from decide_eq_true (by omega),show decide (vw<=1024)=true from decide_eq_true (by omega)];rfl)
    by_cases t2:vh<1
    ·have d2:decide (vh<1)=true:=decide_eq_true t2;have fY:=aa (show bad=true from by rw [fr.out,show aq vh=false from by unfold aq;rw [show decide (1<=vh)=false from decide_eq_false (by omega)];rfl];simp);clear t4 t5 t2
     go_wp2_with fail
     go_meet;exact ⟨by rw [fY.out],rfl⟩
    ·have d2:decide (vh<1)=false:=decide_eq_false t2
     by_cases t3:1024<vh
     ·have d3:decide (1024<vh)=true:=decide_eq_true t3;have fY:=aa (show bad=true from by rw [fr.out,show aq vh=false from by unfold aq;rw [show decide (vh<=1024)=false from decide_eq_false (by omega),Bool.and_false]];simp);clear t4 t5 t2 t3
      go_wp2_with fail
      go_meet;exact ⟨by rw [fY.out],rfl⟩
     ·have d3:decide (1024<vh)=false:=decide_eq_false t3;have fY:=aa (show bad=(vh != (n:Int)) from by rw [fr.out,HSW.out,show aq vh=true from by unfold aq;rw [show decide (1<=vh)=true from decide_eq_true (by omega),show decide (vh<=1024)=true from decide_eq_true (by omega)];rfl];simp [bne]);clear t4 t5 t2 t3
      go_wp2_with fail
      go_meet;exact ⟨by rw [fY.out],rfl⟩
 case rest =>
  obtain ⟨rfl,hwc⟩:=hcut;subst wc
  go_upto_if 32 with (fail)
  go_cut [3] from 32 to 36 (fun sv wx=>OwnE foundE (fun _=>True) wx B 41 sv ((aO ⟨vw,vh,Ls,r,c,pd,au⟩).map aF)/\Below B W1 wx)
  case first =>
   cases hbd:bad with
   |true =>
    have gD:=aa (show (aO ⟨vw,vh,Ls,r,c,pd,au⟩).map aF=[]++[((-1:Int),(-1:Int),(3:Int))] from by rw [HHF.out,hbd];rfl);have HO:=aa (show OwnE foundE (fun _=>True) W1 B 41 (.slice none 0 0) [] from OwnE.nil _ _ _ _ _);have fd:=ik;have fF:=aa (show ([]:List Fd).length<1000000000 from by decide);clear hbd;have fI:=aU HO.out (-1) (-1) 3;have HX:=aa fI.1;have fS:=aa fI.2;have fs:=aa (fd.out.alloc (Nat.le_trans (Nat.le_of_eq fy.out) fd.out.size) (.cells [Value.int .i64 (-1),.int .i64 (-1),.int .i64 3].toArray 41));clear fI
    go_wp2_with (at_builtin;refine ap (E:=foundE) (Z:=fun _=>True) rfl (.tmp 33) (.tmp 35) 33 rfl (.agg #[.int .i64 0,.int .i64 0,.int .i64 0]) 24 Tryd.underlying33 aS rfl (by decide) rfl rfl fS.out HX.out (az fF.out).1 (az fF.out).2 (Nat.le_trans (Nat.le_of_eq fy.out) fs.out.size) ?_)
    intro v2 w2 fK hb2 _ _;have gz:=aa fK;have gF:=aa (fs.out.trans hb2);clear fK hb2 HX fS fs;go_wp2;go_meet
    case rel=>exact ⟨by rw [gD.out];exact gz.out,gF.out⟩
   |false =>
    have gD:=aa (show (aO ⟨vw,vh,Ls,r,c,pd,au⟩).map aF=[] from by rw [HHF.out,hbd];rfl);clear hbd;go_wp2;go_meet
    case rel=>exact ⟨by rw [gD.out];exact OwnE.nil _ _ _ _ _,ik.out⟩
  case rest =>
   obtain ⟨gQ,gu⟩:=hcut;have ke:=aa gQ;have jQ:=aa gu;obtain ⟨sv0,hsv0⟩:=ab (u3);rw [<-hsv0] at ke ⊢;clear gQ gu hsv0;obtain ⟨wo,hwo⟩:=ab (wc);rw [<-hwo] at ke jQ ⊢;clear hwo;have q2:=(HV.out.below jQ.out iA.out).cell 2 _ rfl;go_wp2
   go_loopw [3,4] (fun sv iv wr=>∃ k:Nat,k<=n/\iv=.int .i64 k/\OwnE foundE (fun _=>True) wr B 41 sv ((aO ⟨vw,vh,Ls,r,c,pd,au⟩++aj vw Ls k).map aF)/\Below B W1 wr) (fun _ iv _=>n - (intOf iv).toNat)
   case atStart=>exact ⟨0,Nat.zero_le _,rfl,by rw [bY,List.append_nil];exact ke.out,jQ.out⟩
   case round =>
    obtain ⟨k,hk,rfl,gQ,gu⟩:=hrel;obtain ⟨wq,gL⟩:=ab (wr);subst gL;have HO:=aa gQ;have fd:=aa gu;have q2:=(HV.out.below gu iA.out).cell 2 _ rfl;have q0:=(HV.out.below gu iA.out).cell 0 _ rfl;clear gQ gu;obtain ⟨sv,hsv⟩:=ab (u3);rw [<-hsv] at HO ⊢;clear hsv
    by_cases hlt:k<n
    ·obtain ⟨b,off,cv,eo,hb,_,hc0,hc1,hcv⟩:=hZ.out k hlt;subst eo;have gy:=aa (HB.out.trans (fd.out.mono iX.out));have c0:=(gy.out.cell (p:=⟨b,off+k * 2,none⟩) hb).trans hc0;obtain ⟨Lk,gx⟩:=ab ((Ls.getD k zl).1);rw [<-gx] at hcv;obtain ⟨T0,jC⟩:=ab (aO ⟨vw,vh,Ls,r,c,pd,au⟩++aj vw Ls k);rw [<-jC] at HO;have g8:=aa jC;have iN:=aa gx;have jy:=aa hcv.max;obtain ⟨co,cc,ecv⟩:=hcv.len;obtain ⟨nk,gq⟩:=ab (Lk.length);rw [<-gq] at ecv;subst ecv;have il:=aa hcv;have ig:(k:Int)<(n:Int):=by omega
     have iy:IntKind.i64.wrap ((k:Int)+1)=(k:Int)+1:=by rw [IntKind.wrap_i64];omega
     have jJ:k<lc:=by omega
     have HPX:=aa (show ∀ t s,aA vw Lk=t++s->((T0++aC k t).map aF).length<1000000000 from fun t s h=>by
      refine ia.out _ ?_;obtain ⟨s2,hs2⟩:=bm vw Ls (show k+1<=Ls.length by rw [<-fD.out];omega);refine ⟨aC k s++(s2++aN ⟨vw,vh,Ls,r,c,pd,au⟩),?_⟩;unfold ay;simp only;rw [hs2,aG,<-gx,h,cZ,jC]
      simp [List.append_assoc])
     have iG:=aa gq;clear hc0 hc1 hb hcv gx jC gq
     go_upto_region 8 with (fail)
     clear c0 q2
     go_upto_if 54 with (fail)
     clear q0
     go_cut [3] from 54 to 59 (fun sv2 wx=>OwnE foundE (fun _=>True) wx B 41 sv2 ((T0++aC k (aD vw Lk)).map aF)/\Below B W1 wx)
     case first =>
      by_cases hnw:(nk:Int)=vw
      ·have d1:((nk:Int) != vw)=false:=by simp [hnw]
       have gD:=aa (show (T0++aC k (aD vw Lk)).map aF=T0.map aF from by unfold aD;rw [if_pos (by rw [<-iG.out];exact hnw),bn,List.append_nil]);clear hnw;go_wp2;go_meet
       case rel=>exact ⟨by rw [gD.out];exact HO.out,fd.out⟩
      ·have d1:((nk:Int) != vw)=true:=by simp [hnw]
       have gD:=aa (show (T0++aC k (aD vw Lk)).map aF=T0.map aF++[((k:Int),(-1:Int),(4:Int))] from by unfold aD;rw [if_neg (by rw [<-iG.out];exact hnw),List.map_append];rfl);have fF:=aa (show (T0.map aF).length<1000000000 from by have:=HPX.out [] (aA vw Lk) rfl;rw [bn,List.append_nil] at this;exact this);clear hnw;have fI:=aU HO.out (k:Int) (-1) 4;have HX:=aa fI.1;have fS:=aa fI.2;have fs:=aa (fd.out.alloc (Nat.le_trans (Nat.le_of_eq fy.out) fd.out.size) (.cells [Value.int .i64 (k:Int),.int .i64 (-1),.int .i64 4].toArray 41));clear fI
       go_wp2_with (at_builtin;refine ap (E:=foundE) (Z:=fun _=>True) rfl (.tmp 55) (.tmp 58) 33 rfl (.agg #[.int .i64 0,.int .i64 0,.int .i64 0]) 24 Tryd.underlying33 aS rfl (by decide) rfl rfl fS.out HX.out (az fF.out).1 (az fF.out).2 (Nat.le_trans (Nat.le_of_eq fy.out) fs.out.size) ?_)
       intro v2 w2 fK hb2 _ _;have gz:=aa fK;have gF:=aa (fs.out.trans hb2);clear fK hb2 HX fS fs;go_wp2;go_meet
       case rel=>exact ⟨by rw [gD.out];exact gz.out,gF.out⟩
     case rest =>
      obtain ⟨gQ,gu⟩:=hcut;have jf:=aa gQ;have g5:=aa gu;obtain ⟨w5,hw5⟩:=ab (wc);rw [<-hw5] at jf g5 ⊢;clear gQ gu hw5 HO fd gy;go_wp2
      go_loopw [3,6] (fun sv2 jv wr2=>∃ j:Nat,j<=nk/\jv=.int .i64 j/\OwnE foundE (fun _=>True) wr2 B 41 sv2 ((T0++aC k (aD vw Lk++ai Lk j)).map aF)/\Below B W1 wr2) (fun _ jv _=>nk - (intOf jv).toNat)
      case atStart=>exact ⟨0,Nat.zero_le _,rfl,by rw [cY,List.append_nil];exact jf.out,g5.out⟩
      case round =>
       obtain ⟨j,hj,rfl,gQ,gu⟩:=hrel;obtain ⟨wi,hwi⟩:=ab (wr);subst hwi;have HO:=aa gQ;have fd:=aa gu;have gp:=aa (HB.out.trans (gu.mono iX.out));clear gQ gu;obtain ⟨sv2,hsv2⟩:=ab (u3);rw [<-hsv2] at HO ⊢;clear hsv2
       by_cases hlj:j<nk
       ·obtain ⟨b2,off2,tv,e2,hb2,_,hk0,hk1,gM⟩:=(bo il.out).2.2 j (by rw [<-iG.out];exact hlj);subst e2;have c0:=(gp.out.cell (p:=⟨b2,off2+j * 2,none⟩) hb2).trans hk0;have c1:=(gp.out.cell (p:=⟨b2,off2+j * 2+1,none⟩) hb2).trans hk1;have hcc:=(bo il.out).2.1;have hjc:j<cc:=by omega
        have fR:(j:Int)<(nk:Int):=by omega
        have hwj:IntKind.i64.wrap ((j:Int)+1)=(j:Int)+1:=by rw [IntKind.wrap_i64];have:=jy.out;have:=iG.out;omega
        have kf:IntKind.i64.wrap ((j:Int) - 1)=(j:Int) - 1:=by rw [IntKind.wrap_i64];have:=jy.out;have:=iG.out;omega
        have gO:=cI Lk j;obtain ⟨K,hK⟩:=ab ((Lk.getD j zc).1);obtain ⟨T,hT⟩:=ab ((Lk.getD j zc).2);have io:Lk.getD j zc=(K,T):=by rw [hK,hT]
        rw [<-hK] at c0 gO;rw [<-hT] at gM;rw [io] at gO;have gG:=aa (dx K tv T wi ((gM.ints).below gp.out) gM.max);have jO:=aa (fun (w':World) (h:Below w.heap.size w w')=>dc _ _ Lk ((j:Int)+1) w' (il.out.below h) jy.out);have ii:=aa (fun (w':World) (h:Below w.heap.size w w')=>dc _ _ Lk ((j:Int) - 1) w' (il.out.below h) jy.out);obtain ⟨xo,xc,ext⟩:=gM.len;obtain ⟨nt,jn⟩:=ab (T.length);rw [<-jn] at ext;subst ext;have hsp:∃ s,aA vw Lk=(aD vw Lk++ai Lk j)++s:=by
         obtain ⟨s,hs⟩:=bX Lk (show j<=Lk.length by rw [<-iG.out];omega);exact ⟨s,by unfold aA;rw [hs,List.append_assoc]⟩
        have fF:=aa (show ((T0++aC k (aD vw Lk++ai Lk j)).map aF).length<1000000000 from by
         obtain ⟨s,hs⟩:=hsp;exact HPX.out _ s hs)
        have j8:=aa (show ∀ c:Nat,aQ Lk j=[([(j:Int)],c)]->(T0++aC k (aD vw Lk++ai Lk (j+1))).map aF=(T0++aC k (aD vw Lk++ai Lk j)).map aF++[((k:Int),(j:Int),(c:Int))] from fun c h=>by
         rw [aM,h,<-List.append_assoc,cZ,<-List.append_assoc,List.map_append];rfl)
        have iD:=aa (show aQ Lk j=[]->(T0++aC k (aD vw Lk++ai Lk (j+1))).map aF=(T0++aC k (aD vw Lk++ai Lk j)).map aF from fun h=>by rw [aM,h,List.append_nil]);have gl:=aa (show aQ Lk j=if aL Lk j=0 then [] else [([(j:Int)],aL Lk j)] from rfl);obtain ⟨A,hA⟩:=ab (aB Lk ((j:Int)+1));obtain ⟨D,hD⟩:=ab (aB Lk ((j:Int) - 1));rw [<-hA] at jO gO;rw [<-hD] at ii gO;clear hk0 hk1 hb2 hcc hK hT io jn hsp hA hD gM
        rcases gO with ⟨hr,hy⟩ | ⟨hr,h2,h3,hy⟩ | ⟨hr,h2,h3,hy⟩ | ⟨hr,h2,h3,hy⟩ | ⟨hr,h2,h3,hy⟩ | ⟨hr,h2,h3,hy⟩
        ·have fV:=aa (show (T0++aC k (aD vw Lk++ai Lk (j+1))).map aF=(T0++aC k (aD vw Lk++ai Lk j)).map aF++[((k:Int),(j:Int),(5:Int))] from j8.out 5 (by rw [gl.out,hy,if_neg (by decide)]));rw [hr] at gG;clear hr hy
         go_wp2_with fail
         refine gG.out.mono ?_;rintro e w2 ⟨rfl,b2⟩;have B2:=aa b2;have gT:=aa (gp.out.trans (b2.mono gp.out.size));clear b2;have HO:=aa (HO.out.below B2.out);have fd:=aa (fd.out.trans (B2.out.mono (Nat.le_trans (Nat.le_of_eq fy.out) fd.out.size)));clear c0 c1;obtain ⟨LL,fH⟩:=ab ((T0++aC k (aD vw Lk++ai Lk j)).map aF);rw [<-fH] at HO fF fV;clear fH;have fI:=aU HO.out (k:Int) (j:Int) 5;have HX:=aa fI.1;have fS:=aa fI.2;have fs:=aa (fd.out.alloc (Nat.le_trans (Nat.le_of_eq fy.out) fd.out.size) (.cells [Value.int .i64 (k:Int),.int .i64 (j:Int),.int .i64 5].toArray 41));clear fI
         go_wp2_with (at_builtin;refine ap (E:=foundE) (Z:=fun _=>True) rfl (.tmp 72) (.tmp 76) 33 rfl (.agg #[.int .i64 0,.int .i64 0,.int .i64 0]) 24 Tryd.underlying33 aS rfl (by decide) rfl rfl fS.out HX.out (az fF.out).1 (az fF.out).2 (Nat.le_trans (Nat.le_of_eq fy.out) fs.out.size) ?_)
         intro v2 w2 fK hb2 _ _;have gz:=aa fK;have gF:=aa (fs.out.trans hb2);clear fK hb2 HX fS fs;rw [<-fV.out] at gz;go_wp2
         go_roundw
         case rel=>exact ⟨j+1,by omega,by go_num,gz.out,gF.out⟩
         case measure=>simp [intOf] <;> omega
        ·have fV:=aa (show (T0++aC k (aD vw Lk++ai Lk (j+1))).map aF=(T0++aC k (aD vw Lk++ai Lk j)).map aF++[((k:Int),(j:Int),(2:Int))] from j8.out 2 (by rw [gl.out,hy,if_neg (by decide)]));rw [hr] at gG;have d2:(A != 3)=true:=by simp [h3]
         subst h2;clear hr hy h3
         go_wp2_with fail
         refine gG.out.mono ?_;rintro e w2 ⟨rfl,b2⟩;have B2:=aa b2;have gT:=aa (gp.out.trans (b2.mono gp.out.size));clear b2;have c0:=(B2.out.cell (p:=⟨b2,off2+j * 2,none⟩) (World.block_lt_of_cell? _ _ c0)).trans c0
         go_wp2_with fail
         refine (jO.out w2 gT.out).mono ?_;rintro e w3 ⟨rfl,b3⟩;have HO:=aa ((HO.out.below B2.out).below b3);have fd:=aa ((fd.out.trans (B2.out.mono (Nat.le_trans (Nat.le_of_eq fy.out) fd.out.size))).trans (b3.mono (Nat.le_trans (Nat.le_trans (Nat.le_of_eq fy.out) fd.out.size) B2.out.size)));clear c0 c1 b3;obtain ⟨LL,fH⟩:=ab ((T0++aC k (aD vw Lk++ai Lk j)).map aF);rw [<-fH] at HO fF fV;clear fH;have fI:=aU HO.out (k:Int) (j:Int) 2;have HX:=aa fI.1;have fS:=aa fI.2;have fs:=aa (fd.out.alloc (Nat.le_trans (Nat.le_of_eq fy.out) fd.out.size) (.cells [Value.int .i64 (k:Int),.int .i64 (j:Int),.int .i64 2].toArray 41));clear fI
         go_wp2_with (at_builtin;refine ap (E:=foundE) (Z:=fun _=>True) rfl (.tmp 106) (.tmp 110) 33 rfl (.agg #[.int .i64 0,.int .i64 0,.int .i64 0]) 24 Tryd.underlying33 aS rfl (by decide) rfl rfl fS.out HX.out (az fF.out).1 (az fF.out).2 (Nat.le_trans (Nat.le_of_eq fy.out) fs.out.size) ?_)
         intro v2 w2 fK hb2 _ _;have gz:=aa fK;have gF:=aa (fs.out.trans hb2);clear fK hb2 HX fS fs;rw [<-fV.out] at gz;go_wp2
         go_roundw
         case rel=>exact ⟨j+1,by omega,by go_num,gz.out,gF.out⟩
         case measure=>simp [intOf] <;> omega
        ·have fV:=aa (iD.out (by rw [gl.out,hy,if_pos rfl]));rw [hr] at gG;subst h3;subst h2;clear hr hy
         go_wp2_with fail
         refine gG.out.mono ?_;rintro e w2 ⟨rfl,b2⟩;have B2:=aa b2;have gT:=aa (gp.out.trans (b2.mono gp.out.size));clear b2;have c0:=(B2.out.cell (p:=⟨b2,off2+j * 2,none⟩) (World.block_lt_of_cell? _ _ c0)).trans c0
         go_wp2_with fail
         refine (jO.out w2 gT.out).mono ?_;rintro e w3 ⟨rfl,b3⟩;have c0:=(b3.cell (p:=⟨b2,off2+j * 2,none⟩) (World.block_lt_of_cell? _ _ c0)).trans c0;have HO:=aa ((HO.out.below B2.out).below b3);have fd:=aa ((fd.out.trans (B2.out.mono (Nat.le_trans (Nat.le_of_eq fy.out) fd.out.size))).trans (b3.mono (Nat.le_trans (Nat.le_trans (Nat.le_of_eq fy.out) fd.out.size) B2.out.size)));clear b3;rw [<-fV.out] at HO;go_wp2
         go_roundw
         case rel=>exact ⟨j+1,by omega,by go_num,HO.out,fd.out⟩
         case measure=>simp [intOf] <;> omega
        ·have fV:=aa (show (T0++aC k (aD vw Lk++ai Lk (j+1))).map aF=(T0++aC k (aD vw Lk++ai Lk j)).map aF++[((k:Int),(j:Int),(2:Int))] from j8.out 2 (by rw [gl.out,hy,if_neg (by decide)]));rw [hr] at gG;have d2:(D != 2)=true:=by simp [h3]
         subst h2;clear hr hy h3
         go_wp2_with fail
         refine gG.out.mono ?_;rintro e w2 ⟨rfl,b2⟩;have B2:=aa b2;have gT:=aa (gp.out.trans (b2.mono gp.out.size));clear b2;have c0:=(B2.out.cell (p:=⟨b2,off2+j * 2,none⟩) (World.block_lt_of_cell? _ _ c0)).trans c0
         go_wp2_with fail
         refine (ii.out w2 gT.out).mono ?_;rintro e w3 ⟨rfl,b3⟩;have HO:=aa ((HO.out.below B2.out).below b3);have fd:=aa ((fd.out.trans (B2.out.mono (Nat.le_trans (Nat.le_of_eq fy.out) fd.out.size))).trans (b3.mono (Nat.le_trans (Nat.le_trans (Nat.le_of_eq fy.out) fd.out.size) B2.out.size)));clear c0 c1 b3;obtain ⟨LL,fH⟩:=ab ((T0++aC k (aD vw Lk++ai Lk j)).map aF);rw [<-fH] at HO fF fV;clear fH;have fI:=aU HO.out (k:Int) (j:Int) 2;have HX:=aa fI.1;have fS:=aa fI.2;have fs:=aa (fd.out.alloc (Nat.le_trans (Nat.le_of_eq fy.out) fd.out.size) (.cells [Value.int .i64 (k:Int),.int .i64 (j:Int),.int .i64 2].toArray 41));clear fI
         go_wp2_with (at_builtin;refine ap (E:=foundE) (Z:=fun _=>True) rfl (.tmp 106) (.tmp 110) 33 rfl (.agg #[.int .i64 0,.int .i64 0,.int .i64 0]) 24 Tryd.underlying33 aS rfl (by decide) rfl rfl fS.out HX.out (az fF.out).1 (az fF.out).2 (Nat.le_trans (Nat.le_of_eq fy.out) fs.out.size) ?_)
         intro v2 w2 fK hb2 _ _;have gz:=aa fK;have gF:=aa (fs.out.trans hb2);clear fK hb2 HX fS fs;rw [<-fV.out] at gz;go_wp2
         go_roundw
         case rel=>exact ⟨j+1,by omega,by go_num,gz.out,gF.out⟩
         case measure=>simp [intOf] <;> omega
        ·have fV:=aa (iD.out (by rw [gl.out,hy,if_pos rfl]));rw [hr] at gG;subst h3;subst h2;clear hr hy
         go_wp2_with fail
         refine gG.out.mono ?_;rintro e w2 ⟨rfl,b2⟩;have B2:=aa b2;have gT:=aa (gp.out.trans (b2.mono gp.out.size));clear b2;have c0:=(B2.out.cell (p:=⟨b2,off2+j * 2,none⟩) (World.block_lt_of_cell? _ _ c0)).trans c0
         go_wp2_with fail
         refine (ii.out w2 gT.out).mono ?_;rintro e w3 ⟨rfl,b3⟩;have HO:=aa ((HO.out.below B2.out).below b3);have fd:=aa ((fd.out.trans (B2.out.mono (Nat.le_trans (Nat.le_of_eq fy.out) fd.out.size))).trans (b3.mono (Nat.le_trans (Nat.le_trans (Nat.le_of_eq fy.out) fd.out.size) B2.out.size)));clear b3;rw [<-fV.out] at HO;go_wp2
         go_roundw
         case rel=>exact ⟨j+1,by omega,by go_num,HO.out,fd.out⟩
         case measure=>simp [intOf] <;> omega
        ·have fV:=aa (iD.out (by rw [gl.out,hy,if_pos rfl]));rw [hr] at gG;have d2:(K == 2)=false:=by rw [beq_eq_false_iff_ne];exact h2
         have d3:(K == 3)=false:=by rw [beq_eq_false_iff_ne];exact h3
         clear hr hy h2 h3
         go_wp2_with fail
         refine gG.out.mono ?_;rintro e w2 ⟨rfl,b2⟩;have B2:=aa b2;have gT:=aa (gp.out.trans (b2.mono gp.out.size));clear b2;have c0:=(B2.out.cell (p:=⟨b2,off2+j * 2,none⟩) (World.block_lt_of_cell? _ _ c0)).trans c0;have HO:=aa (HO.out.below B2.out);have fd:=aa (fd.out.trans (B2.out.mono (Nat.le_trans (Nat.le_of_eq fy.out) fd.out.size)));rw [<-fV.out] at HO;go_wp2
         go_roundw
         case rel=>exact ⟨j+1,by omega,by go_num,HO.out,fd.out⟩
         case measure=>simp [intOf] <;> omega
       ·obtain rfl:j=nk:=by omega
        have fV:=aa (show T0++aC k (aD vw Lk++ai Lk j)=aO ⟨vw,vh,Ls,r,c,pd,au⟩++aj vw Ls (k+1) from by
         rw [aG,<-iN.out,<-List.append_assoc,<-g8.out,iG.out];rfl)
        rw [fV.out] at HO;go_wp2
        go_roundw
        case rel=>exact ⟨k+1,by omega,by go_num,HO.out,fd.out⟩
        case measure=>simp [intOf] <;> omega
    ·obtain rfl:k=n:=by omega
     have gJ:=aa (show (ay ⟨vw,vh,Ls,r,c,pd,au⟩).map aF=(aO ⟨vw,vh,Ls,r,c,pd,au⟩++aj vw Ls k).map aF++(aN ⟨vw,vh,Ls,r,c,pd,au⟩).map aF from by
      unfold ay;simp only;rw [<-fD.out,<-List.map_append])
     have fF:=aa (ia.out (aO ⟨vw,vh,Ls,r,c,pd,au⟩++aj vw Ls k) ⟨aN ⟨vw,vh,Ls,r,c,pd,au⟩,by unfold ay;simp only;rw [<-fD.out]⟩);have q1:=(HV.out.below fd.out iA.out).cell 1 _ rfl;have q3:=(HV.out.below fd.out iA.out).cell 3 _ rfl;have q4:=(HV.out.below fd.out iA.out).cell 4 _ rfl;have q5:=(HV.out.below fd.out iA.out).cell 5 _ rfl
     cases hcr:an r c pd vw vh with
     |true =>
      have fE:=aa (iO.out wq);rw [hcr] at fE;have ic:=aa (show (aN ⟨vw,vh,Ls,r,c,pd,au⟩).map aF=[] from by unfold aN;rw [if_pos hcr];rfl);clear hcr
      go_wp2_with fail
      refine fE.out.mono ?_;rintro e w7 ⟨rfl,b7⟩;have HF:=aa (show OwnE foundE (fun _=>True) w7 w.heap.size 41 sv ((ay ⟨vw,vh,Ls,r,c,pd,au⟩).map aF)/\Below w.heap.size w w7 from by
       rw [gJ.out,ic.out,List.append_nil];exact ⟨(HO.out.below b7).base iX.out,(HB.out.trans (fd.out.mono iX.out)).trans (b7.mono (Nat.le_trans HB.out.size (Nat.le_trans (Nat.le_of_eq fy.out.symm) (Nat.le_trans (Nat.le_of_eq fy.out) fd.out.size))))⟩)
      clear b7 q0 q1 q2 q3 q4 q5 fE;go_wp2;go_ret;exact ⟨_,ae,HF.out.1,HF.out.2⟩
     |false =>
      have fE:=aa (iO.out wq);rw [hcr] at fE;have ic:=aa (show (aN ⟨vw,vh,Ls,r,c,pd,au⟩).map aF=[((-1:Int),(-1:Int),(8:Int))] from by unfold aN;rw [if_neg (by simp [hcr])];rfl);clear hcr
      go_wp2_with fail
      refine fE.out.mono ?_;rintro e w7 ⟨rfl,b7⟩;have HO:=aa (HO.out.below b7);have fd:=aa (fd.out.trans (b7.mono (Nat.le_trans (Nat.le_of_eq fy.out) fd.out.size)));clear b7 q0 q1 q2 q3 q4 q5 fE;obtain ⟨LL,fH⟩:=ab ((aO ⟨vw,vh,Ls,r,c,pd,au⟩++aj vw Ls k).map aF);rw [<-fH] at HO fF gJ;clear fH;have fI:=aU HO.out (-1) (-1) 8;have HX:=aa fI.1;have fS:=aa fI.2;have fs:=aa (fd.out.alloc (Nat.le_trans (Nat.le_of_eq fy.out) fd.out.size) (.cells [Value.int .i64 (-1),.int .i64 (-1),.int .i64 8].toArray 41));clear fI
      go_wp2_with (at_builtin;refine ap (E:=foundE) (Z:=fun _=>True) rfl (.tmp 120) (.tmp 122) 33 rfl (.agg #[.int .i64 0,.int .i64 0,.int .i64 0]) 24 Tryd.underlying33 aS rfl (by decide) rfl rfl fS.out HX.out (az fF.out).1 (az fF.out).2 (Nat.le_trans (Nat.le_of_eq fy.out) fs.out.size) ?_)
      intro v2 w2 fK hb2 _ _;have gz:=aa fK;have gF:=aa (fs.out.trans hb2);clear fK hb2 HX fS fs;have HF:=aa (show OwnE foundE (fun _=>True) w2 w.heap.size 41 v2 ((ay ⟨vw,vh,Ls,r,c,pd,au⟩).map aF)/\Below w.heap.size w w2 from by
       rw [gJ.out,ic.out];exact ⟨gz.out.base iX.out,HB.out.trans (gF.out.mono iX.out)⟩)
      go_wp2;go_ret;exact ⟨_,ae,HF.out.1,HF.out.2⟩
end Go.Proofs.YthdphijabffpiaaDoor
