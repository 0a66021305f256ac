import Derived.Test.YthdphijabffpiaaDoorZ0
import Derived.Test.YthdphijabffpiaaDoorMg6
import Derived.Test.YthdphijabffpiaaDoorSchA
import Derived.Test.YthdphijabffpiaaDoorMg3
import Derived.Deep.Cut
import Derived.Lib.MinMax
set_option maxRecDepth 100000
set_option linter.unusedVariables false
set_option linter.unusedSimpArgs false
set_option maxHeartbeats 3000000
namespace Go.Proofs.YthdphijabffpiaaDoor
open Go.RowKit Go.ChangeShapes Go.WideShapes
def longE:Elem (List Pc):=slE pieceE
theorem gi:(Tryd.prog.info? 120).map (fun i=>(i.zero,i.size,i.bytes))=some (some (.agg #[.int .i64 0,.int .i64 0,.slice none 0 0]),pieceE.size,40):=by kernel_rfl
theorem ee:(Tryd.prog.info? 118).map (fun i=>(i.zero,i.size,i.bytes))=some (some (.slice none 0 0),longE.size,24):=by kernel_rfl
theorem fw{α:Type}{E:Elem α}{s:Nat}{w w':World}{B:Nat}{ty:TypeId}{v:Value}{L:List α}(h:OwnE E (fun b=>b<s) w B ty v L)(hs:∀ b,v.ownBlock=some b->b<s)(hb:Below s w w'):OwnE E (fun b=>b<s) w' B ty v L :=
 h.keep ⟨hb.size,fun b _ hz=>hb.block b (by rcases hz with hz | hz;exact hz;exact hs b hz)⟩ (fun _ _ h=>h)
theorem dy(n:Nat):∀ (A B:List Cl) (c:Nat),aE n c (A++B)=aE n c A++aE n (c+A.length) B
 |[],B,c=>rfl
 |y :: A,B,c=>by
  show (if y.1=3 then [] else [((n:Int),(c:Int),y.2)])++aE n (c+1) (A++B)=((if y.1=3 then [] else [((n:Int),(c:Int),y.2)])++aE n (c+1) A)++aE n (c+(A.length+1)) B;rw [dy n A B (c+1),List.append_assoc,show c+1+A.length=c+(A.length+1) by omega]
theorem eO(n:Nat)(C:List Cl)(k:Nat)(h:k<C.length):aE n 0 (C.take (k+1))=aE n 0 (C.take k)++(if (C.getD k zc).1=3 then [] else [((n:Int),(k:Int),(C.getD k zc).2)]):=by
 rw [List.take_succ_eq_append_getElem h,dy,List.length_take,Nat.min_eq_left (by omega),Nat.zero_add];have:C.getD k zc=C[k]:=by simp [List.getD,List.getElem?_eq_getElem h]
 rw [this];show _++((if C[k].1=3 then [] else [((n:Int),(k:Int),C[k].2)])++[])=_;rw [List.append_nil]
theorem dz(n:Nat):∀ (C:List Cl) (c:Nat),(aE n c C).length<=C.length
 |[],_=>Nat.le_refl _
 |y :: C,c=>by
  have ih:=dz n C (c+1);show ((if y.1=3 then [] else [((n:Int),(c:Int),y.2)])++aE n (c+1) C).length<=C.length+1;rw [List.length_append]
  split
  ·simp;omega
  ·simp;omega
def dc(Ls:List Ln)(w:World)(B H n s:Nat)(A:List (List Pc))(p:List Pc)(all long:Value)(wx:World):Prop :=
 A++aW Ls (H - n) n p=aJ Ls/\A.length<=n/\OwnE longE (fun b=>b<s) wx B 118 all A/\(∀ b,all.ownBlock=some b->b<s)/\OwnE pieceE (fun b=>b<w.heap.size\/s<=b) wx s 120 long p/\Below w.heap.size w wx/\B<=s/\s<=wx.heap.size
theorem dR(v:Vw)(lv:Value)(W H:Nat)(hn:NatV v W H)(w:World)(hv:ViewAt w v lv):Calls Tryd.prog 76 #[aN v lv] w (fun e w'=>∃ u,e=.returned u/\HeldE longE (fun _=>True) w' u (aJ v.L)/\Below w.heap.size w w'):=by
 have l8:=hn.w1;have hw2:=hn.w2;have ko:=hn.h2;have iL:=aa hn.len;have iT:=aa (fun i (hi:i<H)=>(hn.row i hi).1);obtain ⟨vw,vh,Ls,r,c,pd,au⟩:=v;obtain ⟨lo,lc,elv⟩:=hv.1.len;rw [hn.len] at elv;subst elv;have im:=aH hv.1;simp only at im iL iT;have hlc:=im.2.1;have ik:=aa im.2.2;unfold aN;simp only;obtain ⟨Wa,gP⟩:=ab (w.alloc (.cells ([.int .i64 vw,.int .i64 vh,.slice lo H lc,.int .i64 r,.int .i64 c,.bool pd,.bool au]:List Value).toArray 26));have ba:Below w.heap.size w Wa:=by rw [gP];exact af _ _
 have ga:Has Wa w.heap.size [.int .i64 vw,.int .i64 vh,.slice lo H lc,.int .i64 r,.int .i64 c,.bool pd,.bool au] 26:=by rw [gP];exact Has.new w _ _
 obtain ⟨B,hB⟩:=ab (Wa.heap.size);have kk:=aa (show w.heap.size<B from by rw [hB];exact ga.lt);have iY:=aa (show w.alloc (.cells #[.int .i64 vw,.int .i64 vh,.slice lo H lc,.int .i64 r,.int .i64 c,.bool pd,.bool au] 26)=Wa from by rw [gP]);have iM:=aa ga;have q2:=ga.cell 2 _ rfl;have lT:=aa (show dc Ls w B H 0 B [] [] (.slice none 0 0) (.slice none 0 0) Wa from ⟨by unfold aJ;rw [iL.out];rfl,Nat.le_refl _,OwnE.nil _ _ _ _ _,(fun b e=>by cases e),OwnE.nil _ _ _ _ _,ba,Nat.le_refl _,by omega⟩);clear gP ba ga hB hv im hn
 go_enter Tryd.func76,Tryd.ntmps76
 go_upto_region 3 with (fail)
 rw [iY.out];go_wp2;clear q2
 go_loopw [3,4,14] (fun av pv i wr=>∃ (n s:Nat) (A:List (List Pc)) (p:List Pc),n<=H/\i=.int .i64 n/\p.length<=1024 * n/\Hid (dc Ls w B H n s A p av pv wr)/\Has wr w.heap.size [.int .i64 vw,.int .i64 vh,.slice lo H lc,.int .i64 r,.int .i64 c,.bool pd,.bool au] 26) (fun _ _ i _=>H - (intOf i).toNat)
 case atStart=>exact ⟨0,B,[],[],Nat.zero_le _,rfl,Nat.le_refl _,lT,iM.out⟩
 case round =>
  clear lT iM;obtain ⟨n,s,A,p,i6,rfl,hpl,HST,lp⟩:=hrel;obtain ⟨wo,jy⟩:=ab (wr);subst jy;have iM:=aa lp;clear lp
  by_cases hlt:n<H
  ·obtain ⟨lb,off,cv,e0,iw,_,l0,l1,hcv⟩:=ik.out n (by rw [iL.out];exact hlt);obtain ⟨L,hL⟩:=ab ((Ls.getD n zl).1);obtain ⟨g,hg⟩:=ab ((Ls.getD n zl).2);have it:=iT.out n hlt;rw [<-hL] at hcv it;rw [<-hg] at l1;obtain ⟨co,cc,ecv⟩:=hcv.len;rw [it] at ecv;subst ecv;obtain ⟨g6,hcc,iA⟩:=aX hcv;clear g6;have gW:=HST.out.2.2.2.2.2.1;have l0:=(gW.cell (p:=⟨lb,off+n * 2,none⟩) iw).trans l0;have l1:=(gW.cell (p:=⟨lb,off+n * 2+1,none⟩) iw).trans l1;obtain ⟨W1,hW1⟩:=ab (wo.alloc (.cells [Value.slice co W cc,Value.bool g].toArray 30));have hb1:Below wo.heap.size wo W1:=by rw [hW1];exact af _ _
   have iZ:Has W1 wo.heap.size [.slice co W cc,.bool g] 30:=by rw [hW1];exact Has.new wo _ _
   have jc:=aa (show wo.alloc (.cells #[Value.slice co W cc,Value.bool g] 30)=W1 from by rw [hW1]);obtain ⟨gl,iG⟩:=ab (wo.heap.size);rw [<-iG] at iZ;have n7:=aa iG;have jj:=aa iZ;have ia:=aa (gW.trans (hb1.mono gW.size));have mt:=aa iA;have ns:=aa it;have mR:=aa hcv;obtain ⟨C,hC⟩:=ab (aO (Ls.getD n zl));have hcut:=bv (Ls.getD n zl) (by rw [<-hL,it];omega);have hat:=fun j (hj:j<(aO (Ls.getD n zl)).length)=>ct (Ls.getD n zl) j hj
   rw [<-hC,<-hL,<-hg,it] at hcut;rw [<-hC,<-hL] at hat;have hCW:C.length<=W/\W - 1<=C.length:=by rcases hcut with ⟨h1,_⟩ | ⟨h1,_⟩ <;> omega
   have jW:=aa hat;have mM:=aa hCW;have HCUT:=aa hcut;have HRU:=aa (show bi Ls n=aE n 0 C from by unfold bi;rw [<-hC]);have HGG:=aa hg
   -- the state in W1
   have hst1:dc Ls w B H n s A p u3 u4 W1:=by
    obtain ⟨a1,a2,a3,a4,a5,a6,a7,a8⟩:=HST.out;exact ⟨a1,a2,a3.below hb1,a4,a5.below hb1,a6.trans (hb1.mono a6.size),a7,Nat.le_trans a8 hb1.size⟩
   have ii:=aa hst1;have HGA1:=aa (iM.out.below hb1 iM.out.lt);have mV:=aa (show ∀ b,u4.ownBlock=some b->b≠gl from fun b e=>by have:=(HST.out.2.2.2.2.1.lt b e).2;omega);subst e0;have hnh:(n:Int)<(H:Int):=by omega
   have hnc:n<lc:=by have:=iL.out;omega
   clear hC hcut hat hCW hL hg it hcv iA gW hb1 iZ hW1 iG hst1 HST iM iw
   go_upto_region 6 with (fail)
   rw [jc.out,<-n7.out];clear l0 l1;have z0:=jj.out.cell 0 _ rfl;have z1:=jj.out.cell 1 _ rfl;obtain ⟨m1,lf⟩:=ab (W - 1);have ku:IntKind.i64.wrap ((W:Int) - 1)=(m1:Int):=by rw [IntKind.wrap_i64];omega
   have HM1:=aa lf;have hm1w0:m1<W:=by omega
   clear lf
   go_upto_region 8 with (fail)
   obtain ⟨cb,coff,tv1,rfl,hcb,_,x0,_,_⟩:=mt.out m1 (by have:=ns.out;omega);have x0:=(ia.out.cell (p:=⟨cb,coff+m1 * 2,none⟩) hcb).trans x0;have hm1c:m1<cc:=by omega
   have hm1w:(m1:Int)<(W:Int):=by omega
   obtain ⟨K1,jK⟩:=ab ((L.getD m1 zc).1);rw [<-jK] at x0;obtain ⟨q8,nd⟩:=ab ((g && decide (K1=0)));have n9:=aa nd;have iU:=aa (show C.length=if q8=true then m1 else W from by
    rcases HCUT.out with ⟨h1,h2,h3⟩ | ⟨h1,h2⟩
    ·rw [nd,jK,HM1.out,h2,h3,decide_eq_true rfl,if_pos (show (true && true)=true from rfl),h1]
    ·rw [if_neg,h1];intro e;rw [nd] at e;simp only [Bool.and_eq_true,decide_eq_true_eq] at e;rw [jK,HM1.out] at e;exact h2 e)
   clear jK nd hcb
   go_cut [33] from 24 to 33 (fun cv wx=>cv=.bool q8/\wx=W1)
   case first =>
    have hq:=n9.out;clear n9 iU
    cases g with
    |false =>
     rw [Bool.false_and] at hq;have i4:=aa hq;clear hq;go_wp2;go_meet
     case rel=>exact ⟨by rw [i4.out],rfl⟩
    |true =>
     rw [Bool.true_and] at hq
     by_cases h3:K1=0
     ·subst h3;have i4:=aa (show q8=true from hq);clear hq;go_wp2;go_meet
      case rel=>exact ⟨by rw [i4.out],rfl⟩
     ·have d3:(K1 == 0)=false:=by rw [beq_eq_false_iff_ne];exact h3
      rw [decide_eq_false h3] at hq;have i4:=aa hq;clear h3 hq;go_wp2;go_meet
      case rel=>exact ⟨by rw [i4.out],rfl⟩
   case rest =>
    obtain ⟨rfl,jo⟩:=hcut;obtain ⟨wq,iE⟩:=ab (wc);subst iE;subst jo
    go_upto_if 33 with (fail)
    go_cut [7] from 34 to 36 (fun cv wx=>cv=.slice (some ⟨cb,coff,none⟩) C.length cc/\wx=wq)
    case first =>
     cases q8 with
     |true =>
      have HE:=aa (show C.length=m1 from iU.out);have hmc:m1<=cc:=by omega
      clear iU;go_wp2;go_meet
      case rel=>exact ⟨by rw [HE.out],rfl⟩
     |false =>
      have HE:=aa (show C.length=W from iU.out);clear iU;go_wp2;go_meet
      case rel=>exact ⟨by rw [HE.out],rfl⟩
    case rest =>
     obtain ⟨rfl,jo⟩:=hcut;obtain ⟨wp,mg⟩:=ab (wc);subst mg;subst jo;obtain ⟨nc,kK⟩:=ab (C.length);have kq:=aa kK;rw [<-kK];clear kK x0 hm1c hm1w ku z0 z1 iU n9 HCUT;go_wp2
     go_loopw [4,39] (fun pv kv wr=>∃ (k:Nat) (q:List Pc),k<=nc/\kv=.int .i64 k/\Hid (q=p++aE n 0 (C.take k))/\q.length<=1024 * n+k/\OwnE longE (fun b=>b<s) wr B 118 u3 A/\OwnE pieceE (fun b=>b<w.heap.size\/s<=b) wr s 120 pv q/\Below w.heap.size w wr/\s<=wr.heap.size/\Has wr w.heap.size [.int .i64 vw,.int .i64 vh,.slice (some ⟨lb,off,none⟩) H lc,.int .i64 r,.int .i64 c,.bool pd,.bool au] 26/\Has wr gl [.slice (some ⟨cb,coff,none⟩) W cc,.bool g] 30/\(∀ b,pv.ownBlock=some b->b≠gl)) (fun _ kv _=>nc - (intOf kv).toNat)
     case atStart=>exact ⟨0,p,Nat.zero_le _,rfl,aa (by rw [List.take_zero];show p=p++[];rw [List.append_nil]),by omega,ii.out.2.2.1,ii.out.2.2.2.2.1,ii.out.2.2.2.2.2.1,ii.out.2.2.2.2.2.2.2,HGA1.out,jj.out,mV.out⟩
     case round =>
      obtain ⟨k,q,hk,rfl,n4,hql,ha,hl,hb,hs,ie,iG,hno⟩:=hrel;obtain ⟨ws,lH⟩:=ab (wr);subst lH;have HA:=aa ha;have HL:=aa hl;have i3:=aa hb;have mj:=aa hs;have iF:=aa ie;have j0:=aa iG;have k9:=aa hno;clear ha hl hb hs ie iG hno
      by_cases hkn:k<nc
      ·have d1:(k:Int)<(nc:Int):=by omega
       have nH:k<C.length:=by rw [<-kq.out];exact hkn
       obtain ⟨cb2,coff2,tv,e2,hcb,_,x0,x1,hh⟩:=mt.out k (by have:=mM.out;have:=ns.out;omega)
       cases e2
       have hat:=jW.out k nH;rw [<-hat] at x0 hh;have kY:=eO n C k nH;obtain ⟨⟨K,X⟩,lY⟩ : ∃ y,y=C.getD k zc:=⟨_,rfl⟩;rw [<-lY] at x0 hh kY;simp only at x0 hh kY;obtain ⟨tx,tc,etv⟩:=hh.len;subst etv;have x0:=(i3.out.cell (p:=⟨cb,coff+k * 2,none⟩) hcb).trans x0;have x1:=(i3.out.cell (p:=⟨cb,coff+k * 2+1,none⟩) hcb).trans x1;have oa:=aa (hh.zone (Y:=fun b=>b<w.heap.size) (fun b hb _=>hb));have mO:=aa kY;have iJ:k<cc:=by have:=mM.out;have:=ns.out;omega
       obtain ⟨W2,hW2⟩:=ab (ws.alloc (.cells [Value.int .i64 K,.slice tx X.length tc].toArray 74));have hb2:Below ws.heap.size ws W2:=by rw [hW2];exact af _ _
       have ko:Has W2 ws.heap.size [.int .i64 K,.slice tx X.length tc] 74:=by rw [hW2];exact Has.new ws _ _
       have HW2E:=aa (show ws.alloc (.cells #[Value.int .i64 K,.slice tx X.length tc] 74)=W2 from by rw [hW2]);obtain ⟨gc,nz⟩:=ab (ws.heap.size);have HGC:=aa nz;rw [<-nz] at ko;have i9:=aa ko;have kL:=HL.out.lt;have jI:=aa kL;have kj:=aa (HA.out.below hb2);have nK:=aa (HL.out.below hb2);have gU:=aa (i3.out.trans (hb2.mono i3.out.size));have mc:=aa (Nat.le_trans mj.out hb2.size);have ig:=aa (iF.out.below hb2 iF.out.lt);have kS:=aa (j0.out.below hb2 j0.out.lt);have HW2S:=aa hb2.size;clear lY hh hcb hat kY hW2 hb2 ko nz kL nH HA HL i3 mj iF j0
       go_upto_region 13 with (fail)
       rw [HW2E.out,<-HGC.out];clear x0 x1;have z0:=i9.out.cell 0 _ rfl;have z1:=i9.out.cell 1 _ rfl;have hnc24:k<=1024:=by have:=mM.out;have:=kq.out;omega
       by_cases h3:K=3
       ·have d3:(K == 3)=true:=by rw [beq_iff_eq];exact h3
        have d4:(K != 3)=false:=by rw [bne_eq_false_iff_eq];exact h3
        have HE:=aa (show q=p++aE n 0 (C.take (k+1)) from by rw [mO.out,if_pos h3,List.append_nil];exact n4.out);clear h3;go_wp2
        go_roundw
        case rel=>exact ⟨k+1,q,by omega,by go_num,HE,by omega,kj.out,nK.out,gU.out,mc.out,ig.out,kS.out,k9.out⟩
        case measure=>simp [intOf] <;> omega
       ·have d3:(K == 3)=false:=by rw [beq_eq_false_iff_ne];exact h3
        have d4:(K != 3)=true:=by rw [bne_iff_ne];exact h3
        have HE:=aa (show q++[((n:Int),(k:Int),X)]=p++aE n 0 (C.take (k+1)) from by rw [mO.out,if_neg h3,<-List.append_assoc,<-n4.out]);have hX:=bL (E:=pieceE) (w:=W2) (ty:=120) (Y:=fun b=>b<w.heap.size) (Z:=fun b=>(b<w.heap.size\/s<=b)/\u4.ownBlock≠some b) [.int .i64 (n:Int),.int .i64 (k:Int),.slice tx X.length tc] ((n:Int),(k:Int),X) (piece_rep.2 ⟨_,rfl,oa.out.below gU.out⟩) (fun b _ hz=>⟨.inl hz,fun e=>by have:=(jI.out b e).1;have:=kk.out;have:=ii.out.2.2.2.2.2.2.1;omega⟩) ⟨.inr mc.out,fun e=>by have:=(jI.out _ e).2;have:=HW2S.out;omega⟩;have HX:=aa hX;have gQ:Below W2.heap.size W2 (W2.alloc (.cells [Value.int .i64 (n:Int),.int .i64 (k:Int),.slice tx X.length tc].toArray 120)):=af _ _;have km:=aa (kj.out.below gQ);have mh:=aa (nK.out.below gQ);have hY:=aa (gU.out.trans (gQ.mono gU.out.size));have iB:=aa (Nat.le_trans mc.out gQ.size);have iX:=aa (ig.out.below gQ ig.out.lt);have mL:=aa (kS.out.below gQ kS.out.lt);have hn24:n<=1024:=by omega
        clear h3 hX gQ kj nK gU ig kS
        go_wp2_with (at_builtin;refine aL (E:=pieceE) (Z:=fun b=>b<w.heap.size\/s<=b) rfl (.tmp 47) (.tmp 53) 118 rfl (.agg #[.int .i64 0,.int .i64 0,.slice none 0 0]) 40 Tryd.underlying118 gi rfl (by decide) rfl rfl mh.out HX.out (by simp;omega) (by simp;omega) iB.out ?_)
        intro v2 w6 iq ja lh hd;rw [HE.out] at iq;have hB:=ii.out.2.2.2.2.2.2.1;have HF:=aa (And.intro (fw km.out ii.out.2.2.2.1 ja) (And.intro iq (And.intro (hY.out.trans (ja.mono (Nat.le_trans (Nat.le_of_lt kk.out) hB))) (And.intro (Nat.le_trans iB.out ja.size) (And.intro (iX.out.below ja (Nat.lt_of_lt_of_le kk.out hB)) (And.intro (lh.has mL.out (fun e=>k9.out _ e rfl)) (show ∀ b,v2.ownBlock=some b->b≠gl from fun b e he=>hd gl (by simpa using mL.out.lt) (fun e9=>k9.out _ e9 rfl) (he ▸ e))))))));have HQL:=aa (show (p++aE n 0 (C.take (k+1))).length<=1024 * n+(k+1) from by rw [<-HE.out,List.length_append];simp;omega);clear iq ja lh hd hB z0 z1;go_wp2
        go_roundw
        case rel=>exact ⟨k+1,_,by omega,by go_num,aa rfl,HQL.out,HF.out⟩
        case measure=>simp [intOf] <;> omega
      ·have d1:¬ (k:Int)<(nc:Int):=by omega
       obtain rfl:k=nc:=by omega
       have HQ2:=aa (show q=p++bi Ls n from by rw [n4.out,HRU.out,kq.out,List.take_length]);have z1:=j0.out.cell 1 _ rfl;have hql2:q.length<=1024 * (n+1):=by have:=mM.out;have:=kq.out;omega
       have ld:=aa (show aW Ls (H - n) n p=if g=true then aW Ls (H - (n+1)) (n+1) q else q :: aW Ls (H - (n+1)) (n+1) [] from by
        rw [show H - n=(H - (n+1))+1 by omega];show (if (Ls.getD n zl).2=true then aW Ls (H - (n+1)) (n+1) (p++bi Ls n) else (p++bi Ls n) :: aW Ls (H - (n+1)) (n+1) [])=_;rw [<-HGG.out,HQ2.out])
       clear hkn
       cases g with
       |true =>
        have jr:=aa (show dc Ls w B H (n+1) s A q u3 u4 ws from ⟨by have h9:=ld.out;rw [if_pos rfl] at h9;rw [<-h9];exact ii.out.1,by have:=ii.out.2.1;omega,HA.out,ii.out.2.2.2.1,HL.out,i3.out,ii.out.2.2.2.2.2.2.1,mj.out⟩);have hn24:n<=1024:=by omega
        go_wp2
        go_roundw
        case rel=>exact ⟨n+1,s,A,q,by omega,by go_num,hql2,jr,iF.out⟩
        case measure=>simp [intOf] <;> omega
       |false =>
        have kL:=HL.out.lt;have hao:=HA.out.lt;have hown:=ii.out.2.2.2.1;have hB:=ii.out.2.2.2.2.2.2.1;have kE:=HL.out.held (fun b hb _=>.inr hb);obtain ⟨vo,vc,ev1⟩:=kE.len;have HX:=aa (bL (E:=longE) (w:=ws) (ty:=118) (Y:=fun b=>b<w.heap.size\/s<=b) (Z:=fun b=>True/\u3.ownBlock≠some b) [u4] q ⟨u4,rfl,kE⟩ (fun b _ hz=>⟨trivial,fun e=>by have h1:=hown b e;have h2:=(hao b e).1;have:=kk.out;rcases hz with hz | hz <;> omega⟩) ⟨trivial,fun e=>by have:=(hao _ e).2;omega⟩);have gQ:Below ws.heap.size ws (ws.alloc (.cells [u4].toArray 118)):=af _ _;have km:=aa ((HA.out.below gQ).keep (Y:=fun _=>True) (.refl _ _) (fun _ _ _=>trivial));have hY:=aa (i3.out.trans (gQ.mono i3.out.size));have iX:=aa (iF.out.below gQ iF.out.lt);have kU:=aa (Nat.le_trans hB (Nat.le_trans mj.out gQ.size));have m5:=aa (show u3.ownBlock≠some w.heap.size from fun e=>by have:=kk.out;have:=(hao _ e).1;omega);have gV:=aa (show A.length<=1024 from by have:=ii.out.2.1;omega);have HAL2:=aa (show A.length<=n from ii.out.2.1);have HSB:=aa (And.intro mj.out hB);have HNX1:=aa (show (A++[q])++aW Ls (H - (n+1)) (n+1) []=aJ Ls from by have h9:=ld.out;rw [if_neg (by decide)] at h9;rw [List.append_assoc,List.singleton_append,<-h9];exact ii.out.1);have hn24:n<=1024:=by omega
        subst ev1;clear kL hao hown hB kE gQ
        go_wp2_with (at_builtin;refine aL (E:=longE) (Z:=fun _=>True) rfl (.tmp 59) (.tmp 61) 116 rfl (.slice none 0 0) 24 Tryd.underlying116 ee rfl (by decide) rfl rfl km.out HX.out (by have:=gV.out;simp;omega) (by have:=gV.out;simp;omega) kU.out ?_)
        intro v2 w7 iq mo lh _;have jr:=aa (show dc Ls w B H (n+1) w7.heap.size (A++[q]) [] v2 (.slice none 0 0) w7 from ⟨HNX1.out,by rw [List.length_append];have:=HAL2.out;simp;omega,iq.keep (.refl _ _) (fun b hb _=>hb),fun b e=>(iq.lt b e).2,OwnE.nil _ _ _ _ _,hY.out.trans (mo.mono (Nat.le_of_lt kk.out)),Nat.le_trans HSB.out.2 (Nat.le_trans HSB.out.1 (Nat.le_trans (Nat.le_of_lt (Nat.lt_of_lt_of_le (Nat.lt_succ_self _) (by simp))) lh.size)),Nat.le_refl _⟩);have HVF:=aa (lh.has iX.out m5.out);clear iq mo lh z1;go_wp2
        go_roundw
        case rel=>exact ⟨n+1,w7.heap.size,A++[q],[],by omega,by go_num,Nat.zero_le _,jr,HVF.out⟩
        case measure=>simp [intOf] <;> omega
  ·obtain rfl:n=H:=by omega
   have d1:¬ (n:Int)<(n:Int):=by omega
   obtain ⟨s1,s2,s3,s4,s5,s6,s7,s8⟩:=HST.out;rw [Nat.sub_self] at s1;have hao:=s3.lt;have kE:=s5.held (fun b hb _=>.inr hb);obtain ⟨vo,vc,ev1⟩:=kE.len;have HX:=aa (bL (E:=longE) (w:=wo) (ty:=118) (Y:=fun b=>b<w.heap.size\/s<=b) (Z:=fun b=>True/\u3.ownBlock≠some b) [u4] p ⟨u4,rfl,kE⟩ (fun b _ hz=>⟨trivial,fun e=>by have h1:=s4 b e;have h2:=(hao b e).1;have:=kk.out;rcases hz with hz | hz <;> omega⟩) ⟨trivial,fun e=>by have:=(hao _ e).2;omega⟩);have gQ:Below wo.heap.size wo (wo.alloc (.cells [u4].toArray 118)):=af _ _;have km:=aa ((s3.below gQ).keep (Y:=fun _=>True) (.refl _ _) (fun _ _ _=>trivial));have hY:=aa (s6.trans (gQ.mono s6.size));have kU:=aa (Nat.le_trans s7 (Nat.le_trans s8 gQ.size));have gV:=aa (show A.length<=1024 from by omega);have jt:=aa (show A++[p]=aJ Ls from s1);subst ev1;clear s1 s2 s3 s4 s5 s6 s7 s8 hao kE gQ hlt HST
   go_wp2_with (at_builtin;refine aL (E:=longE) (Z:=fun _=>True) rfl (.tmp 64) (.tmp 66) 116 rfl (.slice none 0 0) 24 Tryd.underlying116 ee rfl (by decide) rfl rfl km.out HX.out (by have:=gV.out;simp;omega) (by have:=gV.out;simp;omega) kU.out ?_)
   intro v2 w7 iq mo _ _;have HF:=aa (And.intro (show HeldE longE (fun _=>True) w7 v2 (aJ Ls) from by rw [<-jt.out];exact iq.held (fun _ _ _=>trivial)) (hY.out.trans (mo.mono (Nat.le_of_lt kk.out))));clear iq mo;go_wp2;go_ret;exact ⟨_,rfl,HF.out.1,HF.out.2⟩
end Go.Proofs.YthdphijabffpiaaDoor
