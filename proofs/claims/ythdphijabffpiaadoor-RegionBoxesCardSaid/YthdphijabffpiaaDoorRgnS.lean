import Derived.Test.YthdphijabffpiaaDoorZ0
import Derived.Test.YthdphijabffpiaaDoorMg6
import Derived.Test.YthdphijabffpiaaDoorMg3
import Derived.Lib.MinMax
import Derived.Deep.Cut
set_option maxRecDepth 100000
set_option linter.unusedVariables false
set_option linter.unusedSimpArgs false
set_option maxHeartbeats 3000000
namespace Go.Proofs.YthdphijabffpiaaDoor
open Go.RowKit Go.ChangeShapes Go.WideShapes
theorem cu(L:List Cl)(f t j:Nat):aE L f t (j+1)=aE L f t j++(if f<=j/\j<=t then cp (L.getD j zc) else []):=by
 unfold aE;rw [List.range_succ,List.flatMap_append]
 simp
theorem cK{L:List Cl}(h:a8 L L.length=true)(f t:Nat):∀ j,j<=L.length->(aE L f t j).length<=17 * j
 |0,_=>by simp [aE]
 |j+1,hj=>by
  have ih:=cK h f t j (by omega);have hx:(cp (L.getD j zc)).length<=17:=by
   rw [List.getD_eq_getElem?_getD,List.getElem?_eq_getElem (show j<L.length by omega)];exact eR h _ (List.getElem_mem _)
  rw [cu,List.length_append]
  split
  ·omega
  ·simp;omega
theorem fS(L:List Cl)(m:Nat)(h:aw L m=aU L)(hq:∀ k,m=k+1->(L.getD k zc).1≠0):m=aU L:=by
 cases m with
 |zero=>rw [<-h];rfl
 |succ k =>
  unfold aw at h;rw [if_neg (hq k rfl)] at h;exact h
theorem fr{L:List Cl}(h:a8 L L.length=true)(h0:0<L.length):am L (L.length - 1)=L.length - 1:=by
 unfold am
 split
 ·next hk=>have:=(bd L h).1 (L.length - 1) (by omega) hk;omega
 ·rfl
def aC(m:Nat):Int:=(m:Int) - 1
def cR(Ls:List Ln)(W r0 c0 r1 c1 n:Nat):List Int:=if n<=r1 then bn Ls W r0 c0 r1 c1 (n - r0) else bR Ls W r0 c0 r1 c1
theorem eP(Ls:List Ln)(W r0 c0 r1 c1 n:Nat)(g:Bool)(L:List Cl)(hL:L=(Ls.getD n zl).1)(hg:g=(Ls.getD n zl).2)(hl:L.length=W)(gV:a8 L L.length=true)(lk:r0<=n)(ke:n<=r1)(hc0:c0<W)(hc1:c1<W)(h0:0<W)
  (F T m:Nat) (hF:F=aO L (aZ r0 c0 n)) (hT:T=am L (toN W r1 c1 n)) (hm:m=if n<r1 then cX L g else W) :
  cR Ls W r0 c0 r1 c1 (n+1)=bn Ls W r0 c0 r1 c1 (n - r0)++aE L F T m++(if n<r1/\g=false then [10] else []):=by
 have hf:aZ r0 c0 n<L.length:=by unfold aZ;split <;> omega
 have ht:toN W r1 c1 n<L.length:=by unfold toN;split <;> omega
 have hFl:aO L (aZ r0 c0 n)<L.length:=by unfold aO;split <;> omega
 unfold cR
 by_cases h:n<r1
 ·have htn:toN W r1 c1 n=L.length - 1:=by unfold toN;rw [if_neg (by omega)];omega
  rw [if_pos (by omega),show n+1 - r0=(n - r0)+1 by omega];show _++bi (dQ Ls W r0 c0 r1 c1 (r0+(n - r0))) (Ls.getD (r0+(n - r0)) zl).2=_;rw [show r0+(n - r0)=n by omega,<-hg];unfold dQ;rw [<-hL,htn,fC L _ g hFl (fr gV (by omega)),List.append_assoc,hm,if_pos h,hF,hT,htn]
  cases g with
  |true=>rw [if_pos rfl,if_neg (by simp)]
  |false=>rw [if_neg (by decide),if_pos ⟨h,rfl⟩]
 ·obtain rfl:n=r1:=by omega
  rw [if_neg (by omega),if_neg (by omega),List.append_nil];unfold bR dQ;have jp:am L (toN W n c1 n)<L.length:=by
   unfold am
   split
   ·next hk=>exact ((bd L gV).1 _ ht hk).1
   ·exact ht
  rw [<-hL,fW L _ _ jp,hm,if_neg (by omega),hF,hT,hl]
theorem dB(L:List Cl)(W r0 c0 r1 c1 n j:Nat)(hl:L.length=W)(gV:a8 L L.length=true)(lk:r0<=n)(ke:n<=r1)(hcc:r0=r1->c0<=c1)(hc0:c0<W)(hc1:c1<W)(hj:j<W) :
  dp (L.getD j zc).1 n j r0 c0 r1 c1=decide (aO L (aZ r0 c0 n)<=j/\j<=am L (toN W r1 c1 n)):=by
 have hk:=bd L gV;have iQ:aZ r0 c0 n<=toN W r1 c1 n:=by unfold aZ toN;split <;> split <;> omega
 have jp:toN W r1 c1 n<L.length:=by unfold toN;split <;> omega
 have h1:=fA L (aZ r0 c0 n) (toN W r1 c1 n) j iQ jp (by omega) hk.1 hk.2;have h2:=fB (L.getD j zc).1 W n r0 c0 r1 c1 (aZ r0 c0 n) (toN W r1 c1 n) j ⟨by omega,by omega⟩ (by unfold aZ;by_cases e:n=r0;rw [if_pos e,if_pos (by omega)];rw [if_neg e,if_neg (by omega)];rfl) (by unfold toN;by_cases e:n=r1;rw [if_pos e,if_pos (by omega)];rw [if_neg e,if_neg (by omega)];omega) hj (fun e=>by have:=(hk.1 j (by omega) e).1;omega) (fun e=>(hk.2 j (by omega) e).1);unfold inB at h1;rw [Bool.eq_iff_iff,h2,h1,decide_eq_true_eq]
theorem eQ(v:Vw)(lv:Value)(W H:Nat)(hn:NatV v W H)(r0 c0 r1 c1:Nat)(hle:r0<=r1)(hcc:r0=r1->c0<=c1)(hr1:r1<H)(hc0:c0<W)(hc1:c1<W)(w:World)(hv:ViewAt w v lv):Calls Tryd.prog 38 #[aK v lv,.agg #[.int .i64 (r0:Int),.int .i64 (c0:Int)],.agg #[.int .i64 (r1:Int),.int .i64 (c1:Int)]] w (dU (aA .i32) (fun _=>True) 21 w (bR v.L W r0 c0 r1 c1)):=by
 have HN:=aa hn;obtain ⟨vv,ir⟩:=ab (v);rw [<-ir] at HN;obtain ⟨vw,vh,Ls,r,c,pd,au⟩:=v;have hw:=hn.wide;have hh:=hn.high;have ls:=hn.w1;have hw2:=hn.w2;have hh2:=hn.h2;simp only at hw hh;subst hw;subst hh;obtain ⟨lo,lc,elv⟩:=hv.1.len;rw [hn.len] at elv;subst elv;have kf:=aM hv.1;simp only at kf;have hlc:=kf.2.1;have jW:=aa kf.2.2;have kV:=aa (fun i (hi:i<H)=>hn.row i hi);have lR:=aa (fun k (hk:r0+k<=H)=>cF hn r0 c0 r1 c1 k hk);have j8:=aa (show Ls.length=H from hn.len);simp only at kV lR;unfold aK;simp only;obtain ⟨Wa,gM⟩:=ab (w.alloc (.cells ([.int .i64 (W:Int),.int .i64 (H:Int),.slice lo H lc,.int .i64 r,.int .i64 c,.bool pd,.bool au]:List Value).toArray 26));obtain ⟨Wb,gN⟩:=ab (Wa.alloc (.cells ([.int .i64 (r0:Int),.int .i64 (c0:Int)]:List Value).toArray 66));obtain ⟨Wc,ix⟩:=ab (Wb.alloc (.cells ([.int .i64 (r1:Int),.int .i64 (c1:Int)]:List Value).toArray 66));have ba:Below w.heap.size w Wa:=by rw [gM];exact af _ _
 have bb:Below Wa.heap.size Wa Wb:=by rw [gN];exact af _ _
 have bc:Below Wb.heap.size Wb Wc:=by rw [ix];exact af _ _
 have sa':Wa.heap.size=w.heap.size+1:=by rw [gM];exact Array.size_push _
 have sb:Wb.heap.size=w.heap.size+2:=by rw [gN,<-Nat.add_assoc w.heap.size 1 1,<-sa'];exact Array.size_push _
 have gva:Has Wa w.heap.size [.int .i64 (W:Int),.int .i64 (H:Int),.slice lo H lc,.int .i64 r,.int .i64 c,.bool pd,.bool au] 26:=by rw [gM];exact Has.new w _ _
 have gaa:Has Wb Wa.heap.size [.int .i64 (r0:Int),.int .i64 (c0:Int)] 66:=by rw [gN];exact Has.new Wa _ _
 have gba:Has Wc Wb.heap.size [.int .i64 (r1:Int),.int .i64 (c1:Int)] 66:=by rw [ix];exact Has.new Wb _ _
 have gva:=Has.below (Has.below gva bb gva.lt) bc (Has.below gva bb gva.lt).lt;have gaa:=Has.below gaa bc gaa.lt;rw [sa'] at gaa;rw [sb] at gba;obtain ⟨ga,jY⟩:=ab (w.heap.size+1);obtain ⟨gb,hgb⟩:=ab (w.heap.size+2);rw [<-jY] at gaa;rw [<-hgb] at gba;have iu:=aa jY;have iq:=aa hgb;obtain ⟨B,hB⟩:=ab (Wc.heap.size);have hY:=aa (show w.heap.size<B/\ga<B/\gb<B from by rw [hB];exact ⟨gva.lt,gaa.lt,gba.lt⟩);have lB:=aa (show Has Wc w.heap.size [.int .i64 (W:Int),.int .i64 (H:Int),.slice lo H lc,.int .i64 r,.int .i64 c,.bool pd,.bool au] 26/\Has Wc ga [.int .i64 (r0:Int),.int .i64 (c0:Int)] 66/\Has Wc gb [.int .i64 (r1:Int),.int .i64 (c1:Int)] 66/\Below w.heap.size w Wc/\B<=Wc.heap.size from ⟨gva,gaa,gba,ba.trans ((bb.mono ba.size).trans (bc.mono (Nat.le_trans ba.size bb.size))),by omega⟩);have k0:=gaa.cell 0 _ rfl;have iP:=aa (show ((w.alloc (.cells #[.int .i64 (W:Int),.int .i64 (H:Int),.slice lo H lc,.int .i64 r,.int .i64 c,.bool pd,.bool au] 26)).alloc (.cells #[.int .i64 (r0:Int),.int .i64 (c0:Int)] 66)).alloc (.cells #[.int .i64 (r1:Int),.int .i64 (c1:Int)] 66)=Wc from by rw [ix,gN,gM]);have nw:=aa hcc;clear gM gN ix gva gaa gba ba bb bc sa' sb jY hgb hv ir kf hB hcc hn HN
 go_enter Tryd.func38,Tryd.ntmps38
 go_upto_region 2 with (fail)
 rw [iP.out];rw [show w.heap.size+1+1=gb from by have:=iq.out;omega,<-iu.out];go_wp2
 go_loopw [7,8] (fun t i wr=>∃ n:Nat,r0<=n/\n<=r1+1/\i=.int .i64 n/\OwnE (aA .i32) (fun _=>True) wr B 21 t (cR Ls W r0 c0 r1 c1 n)/\Has wr w.heap.size [.int .i64 (W:Int),.int .i64 (H:Int),.slice lo H lc,.int .i64 r,.int .i64 c,.bool pd,.bool au] 26/\Has wr ga [.int .i64 (r0:Int),.int .i64 (c0:Int)] 66/\Has wr gb [.int .i64 (r1:Int),.int .i64 (c1:Int)] 66/\Below w.heap.size w wr/\B<=wr.heap.size) (fun _ i _=>r1+2 - (intOf i).toNat)
 case atStart=>exact ⟨r0,Nat.le_refl _,by omega,rfl,by unfold cR;rw [if_pos hle,Nat.sub_self];exact OwnE.nil _ _ _ _ _,lB.out⟩
 case round =>
  clear k0 lB;obtain ⟨n,lk,ke,rfl,hown,jy⟩:=hrel;obtain ⟨wo,lw⟩:=ab (wr);subst lw;have iB:=aa jy;have HO:=aa hown;have q2:=jy.1.cell 2 _ rfl;have k2:=jy.2.2.1.cell 0 _ rfl;clear hown jy
  by_cases hlt:n<=r1
  ·have hln:(n:Int)<=(r1:Int):=by omega
   obtain ⟨lb,off,cv,rfl,jn,_,l0,l1,hcv⟩:=jW.out n (by have:=j8.out;omega);have il:=kV.out n (by omega);obtain ⟨L,hL⟩:=ab ((Ls.getD n zl).1);obtain ⟨g,hg⟩:=ab ((Ls.getD n zl).2);rw [<-hL] at il hcv;rw [<-hg] at l1;have gV:=il.2;rw [<-il.1] at gV;obtain ⟨co,cc,ecv⟩:=hcv.len;rw [il.1] at ecv;subst ecv;obtain ⟨ki,hccap,iL⟩:=aP hcv;clear ki;obtain ⟨F,hF⟩:=ab (aO L (aZ r0 c0 n));obtain ⟨T,hT⟩:=ab (am L (toN W r1 c1 n));obtain ⟨mN,lq⟩:=ab (if n<r1 then cX L g else W);have hmW:mN<=W:=by
    rw [lq]
    split
    ·unfold cX
     split
     ·split <;> omega
     ·have:=bV L;omega
    ·exact Nat.le_refl _
   have nS:=aa (eP Ls W r0 c0 r1 c1 n g L hL hg il.1 gV lk hlt hc0 hc1 ls F T mN hF hT lq);have nC:=aa (fun j (hj:j<W)=>dB L W r0 c0 r1 c1 n j il.1 gV lk hlt nw.out hc0 hc1 hj);have mD:=aa (lR.out (n - r0) (by omega));have nW:=aa (fun j (hj:j<=L.length)=>cK gV F T j hj);have km:=aa (show cR Ls W r0 c0 r1 c1 n=bn Ls W r0 c0 r1 c1 (n - r0) from if_pos hlt);have iJ:=aa il.1;have i8:=aa lq;have ow:=aa hmW;have hZ:Below w.heap.size w wo:=iB.out.2.2.2.1;have l3:=aa iL;have kY:=aa hcv;have lU:=aa (And.intro jn (And.intro l0 l1));have l0:=(hZ.cell (p:=⟨lb,off+n * 2,none⟩) jn).trans l0;have l1:=(hZ.cell (p:=⟨lb,off+n * 2+1,none⟩) jn).trans l1;rw [<-hF,<-hT] at nC;have hnh:(n:Int)<(H:Int):=by omega
   have oh:n<lc:=by have:=j8.out;omega
   obtain ⟨m1,mG⟩:=ab (W - 1);have ly:IntKind.i64.wrap ((W:Int) - 1)=(m1:Int):=by rw [IntKind.wrap_i64];omega
   obtain ⟨cb,coff,tv1,rfl,hcb,_,x0,_,_⟩:=l3.out m1 (by have:=iJ.out;omega);have x0:=(hZ.cell (p:=⟨cb,coff+m1 * 2,none⟩) hcb).trans x0;have lO:=aa mG;have hm1c:m1<cc:=by omega
   have hm1w:(m1:Int)<(W:Int):=by omega
   clear jn hcv iL hL hg il gV hF hT lq hmW hZ kV lR hcb mG
   go_upto_region 7 with (fail)
   obtain ⟨K1,li⟩:=ab ((L.getD m1 zc).1);have lr:=aa li;rw [<-li] at x0;clear li;obtain ⟨q7,hq7⟩:=ab ((decide (n<r1) && g && decide (K1=0)));have nJ:=aa hq7;clear hq7
   go_cut [48] from 29 to 48 (fun cv wx=>cv=.bool q7/\wx=wo)
   case first =>
    by_cases h1:n<r1
    ·have d1:decide ((n:Int)<(r1:Int))=true:=ag (by omega);have d2:decide (n<r1)=true:=decide_eq_true h1;have hq:=nJ.out;rw [d2,Bool.true_and] at hq;have HD:=aa (And.intro d1 d2);clear h1
     cases g with
     |false =>
      rw [Bool.false_and] at hq;go_wp2;go_meet
      case rel=>exact ⟨by rw [hq],rfl⟩
     |true =>
      rw [Bool.true_and] at hq
      by_cases h3:K1=0
      ·subst h3;have iC:=aa (show q7=true from hq);clear hq;go_wp2;go_meet
       case rel=>exact ⟨by rw [iC.out],rfl⟩
      ·have d3:(K1 == 0)=false:=by rw [beq_eq_false_iff_ne];exact h3
       rw [decide_eq_false h3] at hq;clear h3;go_wp2;go_meet
       case rel=>exact ⟨by rw [hq],rfl⟩
    ·have d1:decide ((n:Int)<(r1:Int))=false:=ah (by omega);have d2:decide (n<r1)=false:=decide_eq_false h1;have hq:=nJ.out;rw [d2,Bool.false_and,Bool.false_and] at hq;clear h1;go_wp2;go_meet
     case rel=>exact ⟨by rw [hq],rfl⟩
   case rest =>
    obtain ⟨rfl,iK⟩:=hcut;obtain ⟨wq,iS⟩:=ab (wc);subst iS;have iK:=iK.symm;subst iK;obtain ⟨m2,kB⟩:=ab (if q7=true then W - 1 else W);obtain ⟨P,hP⟩ : ∃ P:Nat->Prop,P=fun m=>(n<r1/\g=false->aw L m=aU L)/\(¬ (n<r1/\g=false)->m=mN):=⟨_,rfl⟩
    have hP2:P m2:=by
     have hq:=nJ.out;have hk:=lr.out;have hmn:=i8.out;rw [lO.out] at hk;rw [hP];constructor
     ·rintro ⟨e1,e2⟩;rw [e2,Bool.and_false,Bool.false_and] at hq;rw [hq] at kB;rw [kB,if_neg (by decide),<-iJ.out]
      rfl
     ·intro hne;rw [hmn,kB]
      by_cases e1:n<r1
      ·have hg:g=true:=by cases g with | true=>rfl | false=>exact absurd ⟨e1,rfl⟩ hne
       rw [if_pos e1];unfold cX;rw [if_pos hg,iJ.out,<-hk,hq,hg,decide_eq_true e1]
       by_cases e3:K1=0
       ·rw [if_pos e3,decide_eq_true e3,if_pos (by decide)]
       ·rw [if_neg e3,decide_eq_false e3,if_neg (by decide)]
      ·rw [if_neg e1,hq,decide_eq_false e1,Bool.false_and,Bool.false_and,if_neg (by decide)]
    have hPs:∀ m,P (m+1)->n<r1->g=false->(L.getD m zc).1=0->P m:=by
     intro m hp e1 e2 e3;rw [hP] at hp ⊢;refine ⟨fun h=>?_,fun h=>absurd ⟨e1,e2⟩ h⟩;have h1:=hp.1 h;unfold aw at h1;rw [if_pos e3] at h1;exact h1
    have hPe:∀ m,P m->¬ (n<r1/\g=false/\0<m/\(L.getD (m - 1) zc).1=0)->m=mN:=by
     intro m hp hne;rw [hP] at hp
     by_cases h:n<r1/\g=false
     ·have h1:=hp.1 h;have h2:=fS L m h1 (fun k e hk=>hne ⟨h.1,h.2,by omega,by rw [e];exact hk⟩);rw [h2,i8.out,if_pos h.1];unfold cX;rw [h.2];exact (if_neg (by decide)).symm
     ·exact hp.2 h
    have nQ:=aa hP2;have mK:=aa hPs;have mT:=aa hPe;have mS:=aa (show m2<=W from by rw [kB];split <;> omega);have HI1:=aa (show q7=true->IntKind.i64.wrap ((m1:Int) - 1)=aC m2 from fun e=>by rw [kB,if_pos e,IntKind.wrap_i64];unfold aC;have:=lO.out;omega);have HI2:=aa (show q7=false->(m1:Int)=aC m2 from fun e=>by rw [kB,e,if_neg (by decide)];unfold aC;have:=lO.out;omega);clear kB hP2 hPs hPe hP nJ lr x0 i8 ly hm1c hm1w
    go_upto_if 48 with (fail)
    go_cut [10] from 49 to 50 (fun lv wx=>lv=.int .i64 (aC m2)/\wx=wo)
    case first =>
     cases q7 with
     |true =>
      have hi:=HI1.out rfl;go_wp2;go_meet
      case rel=>exact ⟨rfl,rfl⟩
     |false =>
      have hi:=aa (HI2.out rfl);go_wp2;go_meet
      case rel=>exact ⟨by rw [hi.out],rfl⟩
    case rest =>
     obtain ⟨rfl,iK⟩:=hcut;obtain ⟨wp,lQ⟩:=ab (wc);subst lQ;have iK:=iK.symm;subst iK;clear HI1 HI2 lO;go_wp2
     go_loopw [10] (fun lv wr=>∃ m:Nat,m<=W/\lv=.int .i64 (aC m)/\P m/\wr=wo) (fun lv _=>(intOf lv+1).toNat)
     case atStart=>exact ⟨m2,mS.out,rfl,nQ.out,rfl⟩
     case round =>
      obtain ⟨m,hm,rfl,hp,rfl⟩:=hrel;have HP:=aa hp;clear hp nQ mS;obtain ⟨q9,mL⟩:=ab ((decide (n<r1) && !g && decide (0<m) && decide ((L.getD (m - 1) zc).1=0)));have kj:=aa mL;clear mL
      go_upto_region 9 with (fail)
      go_cut [10,75] from 51 to 75 (fun lv cv wx=>lv=.int .i64 (aC m)/\cv=.bool q9/\wx=wr)
      case first =>
       have hq:=kj.out;clear kj
       by_cases h1:n<r1
       ·have d1:decide ((n:Int)<(r1:Int))=true:=ag (by omega);have d2:decide (n<r1)=true:=decide_eq_true h1;rw [d2,Bool.true_and] at hq;clear h1
        cases g with
        |true =>
         have iC:=aa (show q9=false from hq);clear hq;go_wp2;go_meet
         case rel=>exact ⟨rfl,by rw [iC.out],rfl⟩
        |false =>
         cases m with
         |zero =>
          have iC:=aa (show q9=false from hq);rw [show aC 0 = -1 from rfl];clear hq;go_wp2;go_meet
          case rel=>exact ⟨rfl,by rw [iC.out],rfl⟩
         |succ k =>
          have jg:=aa (show aC (k+1)=(k:Int) from by unfold aC;omega);rw [jg.out];have hq:q9=decide ((L.getD k zc).1=0):=by rw [hq,decide_eq_true (show 0<k+1 by omega)];rfl
          obtain ⟨cb2,coff2,tv2,e2,hcb,_,x0,_,_⟩:=l3.out k (by have:=iJ.out;omega)
          cases e2
          have x0:=(iB.out.2.2.2.1.cell (p:=⟨cb,coff+k * 2,none⟩) hcb).trans x0;have kW:k<cc:=by omega
          have hkw:(k:Int)<(W:Int):=by omega
          clear hcb;generalize (L.getD k zc).1=K at x0 hq
          by_cases h3:K=0
          ·subst h3;have iC:=aa (show q9=true from hq);clear hq;go_wp2;go_meet
           case rel=>exact ⟨by rw [jg.out],by rw [iC.out],rfl⟩
          ·have d3:(K == 0)=false:=by rw [beq_eq_false_iff_ne];exact h3
           rw [decide_eq_false h3] at hq;have iC:=aa hq;clear h3 hq;go_wp2;go_meet
           case rel=>exact ⟨by rw [jg.out],by rw [iC.out],rfl⟩
       ·have d1:decide ((n:Int)<(r1:Int))=false:=ah (by omega);have d2:decide (n<r1)=false:=decide_eq_false h1;rw [d2,Bool.false_and,Bool.false_and,Bool.false_and] at hq;have iC:=aa hq;clear h1 hq;go_wp2;go_meet
        case rel=>exact ⟨rfl,by rw [iC.out],rfl⟩
      case rest =>
       obtain ⟨rfl,rfl,iK⟩:=hcut;obtain ⟨wp,lQ⟩:=ab (wc);subst lQ;subst iK
       cases q9 with
       |true =>
        have hq:=kj.out.symm;simp only [Bool.and_eq_true,Bool.not_eq_true',decide_eq_true_eq] at hq;obtain ⟨⟨⟨e1,e2⟩,e3⟩,e4⟩:=hq;obtain ⟨k,rfl⟩ : ∃ k,m=k+1:=⟨m - 1,by omega⟩;have oD:=aa (mK.out k HP.out e1 e2 e4);have lJ:IntKind.i64.wrap (aC (k+1) - 1)=aC k:=by unfold aC;rw [IntKind.wrap_i64];omega
        have oV:=aa (show (aC k+1).toNat<(aC (k+1)+1).toNat from by unfold aC;omega);clear e1 e2 e3 e4 kj;go_wp2
        go_roundw
        case rel=>exact ⟨k,by omega,rfl,oD.out,trivial⟩
        case measure=>exact oV.out
       |false =>
        have mb:m=mN:=mT.out m HP.out (fun h=>by
         have hq:=kj.out;rw [decide_eq_true h.1,h.2.1,decide_eq_true h.2.2.1,decide_eq_true h.2.2.2] at hq;exact absurd hq (by decide))
        subst mb;clear kj mT mK HP hm;obtain ⟨T0,hT0⟩:=ab (bn Ls W r0 c0 r1 c1 (n - r0));rw [<-hT0] at km mD nS;have HOT:=aa (show OwnE (aA .i32) (fun _=>True) wp B 21 u7 T0 from by rw [<-km.out];exact HO.out);clear hT0 km HO;go_wp2
        go_loopw [7,11] (fun t kv wr=>∃ j:Nat,j<=m/\kv=.int .i64 j/\OwnE (aA .i32) (fun _=>True) wr B 21 t (T0++aE L F T j)/\Has wr w.heap.size [.int .i64 (W:Int),.int .i64 (H:Int),.slice (some ⟨lb,off,none⟩) H lc,.int .i64 r,.int .i64 c,.bool pd,.bool au] 26/\Has wr ga [.int .i64 (r0:Int),.int .i64 (c0:Int)] 66/\Has wr gb [.int .i64 (r1:Int),.int .i64 (c1:Int)] 66/\Below w.heap.size w wr/\B<=wr.heap.size) (fun _ kv _=>m+1 - (intOf kv).toNat)
        case atStart=>exact ⟨0,Nat.zero_le _,rfl,by rw [show aE L F T 0=[] from rfl,List.append_nil];exact HOT.out,iB.out⟩
        case round =>
         obtain ⟨j,hj,rfl,hown,jy⟩:=hrel;obtain ⟨ws,my⟩:=ab (wr);subst my;clear HOT iB q2 k2 l0 l1;have iA:=aa jy;have kg:=aa hown;clear hown jy;obtain ⟨z,hz⟩:=ab (aC m);rw [<-hz];have HZZ:=aa hz
         by_cases hjm:j<m
         ·have d1:decide ((j:Int)<=z)=true:=by rw [decide_eq_true_eq,hz];unfold aC;omega
          clear hz;have oF:j<W:=by have:=ow.out;omega
          obtain ⟨cb2,coff2,tv,e2,hcb,_,x0,x1,hh⟩:=l3.out j (by have:=iJ.out;omega)
          cases e2
          have hZ:=iA.out.2.2.2.1;have kp:=aa (hh.zone (Y:=fun b=>b<w.heap.size) (fun b hb _=>hb));obtain ⟨⟨K,X⟩,nd⟩ : ∃ y,y=L.getD j zc:=⟨_,rfl⟩;have ji:=aa (fun (w':World) (h:Below w.heap.size w w')=>And.intro ((h.cell (p:=⟨cb,coff+j * 2,none⟩) hcb).trans x0) ((h.cell (p:=⟨cb,coff+j * 2+1,none⟩) hcb).trans x1));obtain ⟨qb,lp⟩:=ab (decide (F<=j/\j<=T));have kl:=aa (cY (fun _=>True) (.slice (some ⟨cb,coff,none⟩) W cc) L j n r0 c0 r1 c1 ws (kY.out.below hZ) (by have:=iJ.out;omega));rw [nC.out j oF,<-lp] at kl;have ll:=cu L F T j;have nY:=aa (nW.out (j+1) (by have:=iJ.out;omega));rw [<-nd] at ll kp ji;have od:=aa (show qb=false->aE L F T (j+1)=aE L F T j from fun e=>by rw [ll,if_neg (by rw [lp,decide_eq_false_iff_not] at e;exact e),List.append_nil]);have oU:=aa (show qb=true->aE L F T (j+1)=aE L F T j++cp (K,X) from fun e=>by rw [ll,if_pos (by rw [lp,decide_eq_true_eq] at e;exact e)]);have k0:=iA.out.2.1.cell 0 _ rfl;have k1:=iA.out.2.1.cell 1 _ rfl;have k2:=iA.out.2.2.1.cell 0 _ rfl;have k3:=iA.out.2.2.1.cell 1 _ rfl;have hjc:j<cc:=by omega
          have hjw:(j:Int)<(W:Int):=by omega
          simp only at kp ji;clear x0 x1 hh hcb nd lp ll hZ
          go_wp2_with fail
          refine kl.out.mono ?_;rintro e w4 ⟨rfl,b4⟩;have i9:=aa (show Has w4 w.heap.size [.int .i64 (W:Int),.int .i64 (H:Int),.slice (some ⟨lb,off,none⟩) H lc,.int .i64 r,.int .i64 c,.bool pd,.bool au] 26/\Has w4 ga [.int .i64 (r0:Int),.int .i64 (c0:Int)] 66/\Has w4 gb [.int .i64 (r1:Int),.int .i64 (c1:Int)] 66/\Below w.heap.size w w4/\B<=w4.heap.size from ⟨iA.out.1.below b4 iA.out.1.lt,iA.out.2.1.below b4 iA.out.2.1.lt,iA.out.2.2.1.below b4 iA.out.2.2.1.lt,iA.out.2.2.2.1.trans (b4.mono iA.out.2.2.2.1.size),Nat.le_trans iA.out.2.2.2.2 b4.size⟩);have kH:=aa (kg.out.below b4);clear b4 k0 k1 k2 k3 kg iA kl
          cases qb with
          |false =>
           have HE:=aa (od.out rfl);go_wp2
           go_roundw
           case rel=>exact ⟨j+1,by omega,by go_num,by rw [HE.out];exact kH.out,i9.out⟩
           case measure=>simp [intOf] <;> omega
          |true =>
           have jd:=oU.out rfl;unfold cp at jd;simp only at jd;have ku:=aa (show (T0++aE L F T (j+1)).length<=30000000 from by rw [List.length_append];have:=nY.out;have:=mD.out;omega);obtain ⟨P0,kh⟩:=ab (T0++aE L F T j);have lK:=aa kh;rw [<-kh] at kH;clear kh;have ij:=kH.out.lt;have x0:=(ji.out _ i9.out.2.2.2.1).1
           by_cases jh:K=0
           ·subst jh;rw [if_pos rfl] at jd;have HE:=aa (show T0++aE L F T (j+1)=P0++32 :: X from by rw [jd,lK.out];simp);have im:=aa (show P0.length+1+X.length<=30000000 from by have:=ku.out;rw [HE.out,List.length_append,List.length_cons] at this;omega);have HX:=aa (show HeldE (aA .i32) (fun b=>True/\u7.ownBlock≠some b) (w4.alloc (.cells [Value.int .i32 32].toArray 21)) (.slice (some ⟨w4.heap.size,0,none⟩) 1 1) [32] from a9 (Y:=fun _=>False) [.int .i32 32] 32 rfl (fun _ _ h=>h.elim) ⟨trivial,fun e=>by have:=(ij _ e).2;omega⟩);have gE:Below w4.heap.size w4 (w4.alloc (.cells [Value.int .i32 32].toArray 21)):=af _ _;have kU:=aa (kH.out.below gE);have iI:=aa (show Has (w4.alloc (.cells [Value.int .i32 32].toArray 21)) w.heap.size [.int .i64 (W:Int),.int .i64 (H:Int),.slice (some ⟨lb,off,none⟩) H lc,.int .i64 r,.int .i64 c,.bool pd,.bool au] 26/\Has (w4.alloc (.cells [Value.int .i32 32].toArray 21)) ga [.int .i64 (r0:Int),.int .i64 (c0:Int)] 66/\Has (w4.alloc (.cells [Value.int .i32 32].toArray 21)) gb [.int .i64 (r1:Int),.int .i64 (c1:Int)] 66/\Below w.heap.size w (w4.alloc (.cells [Value.int .i32 32].toArray 21))/\B<=(w4.alloc (.cells [Value.int .i32 32].toArray 21)).heap.size from ⟨i9.out.1.below gE i9.out.1.lt,i9.out.2.1.below gE i9.out.2.1.lt,i9.out.2.2.1.below gE i9.out.2.2.1.lt,i9.out.2.2.2.1.trans (gE.mono i9.out.2.2.2.1.size),Nat.le_trans i9.out.2.2.2.2 gE.size⟩);have iT:=aa ij;clear jd ij gE
            go_wp2_with (at_builtin;refine ai (E:=aA .i32) (Z:=fun _=>True) rfl (.tmp 96) (.tmp 97) 57 rfl (.int .i32 0) 4 Tryd.underlying57 aF rfl (Nat.lt_succ_self 0) rfl rfl kU.out HX.out (by have:=im.out;simp;omega) (by have:=im.out;simp;omega) iI.out.2.2.2.2 ?_)
            intro v2 w5 hO hb2 ik _;have hno:∀ b,b<B->u7.ownBlock≠some b:=fun b hlt e=>by have:=(iT.out b e).1;omega
            have lE:=aa (show Has w5 w.heap.size [.int .i64 (W:Int),.int .i64 (H:Int),.slice (some ⟨lb,off,none⟩) H lc,.int .i64 r,.int .i64 c,.bool pd,.bool au] 26/\Has w5 ga [.int .i64 (r0:Int),.int .i64 (c0:Int)] 66/\Has w5 gb [.int .i64 (r1:Int),.int .i64 (c1:Int)] 66/\Below w.heap.size w w5/\B<=w5.heap.size from ⟨ik.has iI.out.1 (hno _ hY.out.1),ik.has iI.out.2.1 (hno _ hY.out.2.1),ik.has iI.out.2.2.1 (hno _ hY.out.2.2),iI.out.2.2.2.1.trans (hb2.mono (Nat.le_of_lt hY.out.1)),Nat.le_trans iI.out.2.2.2.2 hb2.size⟩);have iZ:=hO.lt;have ma:=aa iZ;obtain ⟨tx,tc,etv⟩:=kp.out.len;have HU:=aa ((kp.out.below lE.out.2.2.2.1).zone (Y:=fun b=>True/\v2.ownBlock≠some b) (fun b _ hz=>⟨trivial,fun e=>by have:=(iZ b e).1;have:=hY.out.1;omega⟩));have oY:=aa hO;clear x0 hO hb2 ik hno iZ;have x1:=(ji.out _ lE.out.2.2.2.1).2;subst etv
            go_wp2_with (at_builtin;refine ai (E:=aA .i32) (Z:=fun _=>True) rfl (.tmp 99) (.tmp 104) 57 rfl (.int .i32 0) 4 Tryd.underlying57 aF rfl (Nat.lt_succ_self 0) rfl rfl oY.out HU.out (by have:=im.out;simp;omega) (by have:=im.out;simp;omega) lE.out.2.2.2.2 ?_)
            intro v3 w6 i5 hb3 ik _;rw [<-HE.out] at i5;have hno:∀ b,b<B->v2.ownBlock≠some b:=fun b hlt e=>by have:=(ma.out b e).1;omega
            have HF:=aa (And.intro i5 (show Has w6 w.heap.size [.int .i64 (W:Int),.int .i64 (H:Int),.slice (some ⟨lb,off,none⟩) H lc,.int .i64 r,.int .i64 c,.bool pd,.bool au] 26/\Has w6 ga [.int .i64 (r0:Int),.int .i64 (c0:Int)] 66/\Has w6 gb [.int .i64 (r1:Int),.int .i64 (c1:Int)] 66/\Below w.heap.size w w6/\B<=w6.heap.size from ⟨ik.has lE.out.1 (hno _ hY.out.1),ik.has lE.out.2.1 (hno _ hY.out.2.1),ik.has lE.out.2.2.1 (hno _ hY.out.2.2),lE.out.2.2.2.1.trans (hb3.mono (Nat.le_of_lt hY.out.1)),Nat.le_trans lE.out.2.2.2.2 hb3.size⟩));clear x1 i5 hb3 ik hno;go_wp2
            go_roundw
            case rel=>exact ⟨j+1,by omega,by go_num,HF.out⟩
            case measure=>simp [intOf] <;> omega
           ·have kN:(K == 0)=false:=by rw [beq_eq_false_iff_ne];exact jh
            rw [if_neg jh,List.nil_append] at jd;have HE:=aa (show T0++aE L F T (j+1)=P0++X from by rw [jd,lK.out];simp);have im:=aa (show P0.length+X.length<=30000000 from by have:=ku.out;rw [HE.out,List.length_append] at this;exact this);have ma:=aa ij;obtain ⟨tx,tc,etv⟩:=kp.out.len;have HU:=aa ((kp.out.below i9.out.2.2.2.1).zone (Y:=fun b=>True/\u7.ownBlock≠some b) (fun b _ hz=>⟨trivial,fun e=>by have:=(ij b e).1;have:=hY.out.1;omega⟩));have x1:=(ji.out _ i9.out.2.2.2.1).2;subst etv;clear jd ij jh
            go_wp2_with (at_builtin;refine ai (E:=aA .i32) (Z:=fun _=>True) rfl (.tmp 99) (.tmp 104) 57 rfl (.int .i32 0) 4 Tryd.underlying57 aF rfl (Nat.lt_succ_self 0) rfl rfl kH.out HU.out (by have:=im.out;omega) (by have:=im.out;omega) i9.out.2.2.2.2 ?_)
            intro v3 w6 i5 hb3 ik _;rw [<-HE.out] at i5;have hno:∀ b,b<B->u7.ownBlock≠some b:=fun b hlt e=>by have:=(ma.out b e).1;omega
            have HF:=aa (And.intro i5 (show Has w6 w.heap.size [.int .i64 (W:Int),.int .i64 (H:Int),.slice (some ⟨lb,off,none⟩) H lc,.int .i64 r,.int .i64 c,.bool pd,.bool au] 26/\Has w6 ga [.int .i64 (r0:Int),.int .i64 (c0:Int)] 66/\Has w6 gb [.int .i64 (r1:Int),.int .i64 (c1:Int)] 66/\Below w.heap.size w w6/\B<=w6.heap.size from ⟨ik.has i9.out.1 (hno _ hY.out.1),ik.has i9.out.2.1 (hno _ hY.out.2.1),ik.has i9.out.2.2.1 (hno _ hY.out.2.2),i9.out.2.2.2.1.trans (hb3.mono (Nat.le_of_lt hY.out.1)),Nat.le_trans i9.out.2.2.2.2 hb3.size⟩));clear x0 x1 i5 hb3 ik hno;go_wp2
            go_roundw
            case rel=>exact ⟨j+1,by omega,by go_num,HF.out⟩
            case measure=>simp [intOf] <;> omega
         ·have d1:decide ((j:Int)<=z)=false:=by rw [decide_eq_false_iff_not,hz];unfold aC;omega
          clear hz;obtain rfl:j=m:=by omega
          have q2:=iA.out.1.cell 2 _ rfl;have k2:=iA.out.2.2.1.cell 0 _ rfl;have l1:=(iA.out.2.2.2.1.cell (p:=⟨lb,off+n * 2+1,none⟩) lU.out.1).trans lU.out.2.2
          go_upto_region 18 with (fail)
          obtain ⟨q18,hq18⟩:=ab ((decide (n<r1) && !g));have k9:=aa hq18;clear hq18
          go_cut [118] from 106 to 118 (fun cv wx=>cv=.bool q18/\wx=ws)
          case first =>
           have hq:=k9.out;clear k9
           by_cases h1:n<r1
           ·have d1:decide ((n:Int)<(r1:Int))=true:=ag (by omega);have d2:decide (n<r1)=true:=decide_eq_true h1;rw [d2,Bool.true_and] at hq;have iC:=aa hq;clear h1 hq
            cases g with
            |true =>
             go_wp2;go_meet
             case rel=>exact ⟨by rw [iC.out];rfl,rfl⟩
            |false =>
             go_wp2;go_meet
             case rel=>exact ⟨by rw [iC.out];rfl,rfl⟩
           ·have d1:decide ((n:Int)<(r1:Int))=false:=ah (by omega);have d2:decide (n<r1)=false:=decide_eq_false h1;rw [d2,Bool.false_and] at hq;have iC:=aa hq;clear h1 hq;go_wp2;go_meet
            case rel=>exact ⟨by rw [iC.out],rfl⟩
          case rest =>
           obtain ⟨rfl,iK⟩:=hcut;have iK:=iK.symm;obtain ⟨wt,hwt⟩:=ab (wc);subst hwt;have iK:=iK.symm;subst iK;obtain ⟨P0,kh⟩:=ab (T0++aE L F T j);rw [<-kh] at nS kg;have lS:=aa (show P0.length<=30000000 from by rw [kh,List.length_append];have:=nW.out j (by have:=iJ.out;have:=ow.out;omega);have:=mD.out;have:=ow.out;omega);clear kh
           cases q18 with
           |true =>
            have hq:=k9.out.symm;simp only [Bool.and_eq_true,Bool.not_eq_true',decide_eq_true_eq] at hq;have HE:=aa (show cR Ls W r0 c0 r1 c1 (n+1)=P0++[10] from by rw [nS.out,if_pos hq]);have ij:=kg.out.lt;have HX:=aa (show HeldE (aA .i32) (fun b=>True/\u7.ownBlock≠some b) (wt.alloc (.cells [Value.int .i32 10].toArray 21)) (.slice (some ⟨wt.heap.size,0,none⟩) 1 1) [10] from a9 (Y:=fun _=>False) [.int .i32 10] 10 rfl (fun _ _ h=>h.elim) ⟨trivial,fun e=>by have:=(ij _ e).2;omega⟩);have gE:Below wt.heap.size wt (wt.alloc (.cells [Value.int .i32 10].toArray 21)):=af _ _;have kU:=aa (kg.out.below gE);have iI:=aa (show Has (wt.alloc (.cells [Value.int .i32 10].toArray 21)) w.heap.size [.int .i64 (W:Int),.int .i64 (H:Int),.slice (some ⟨lb,off,none⟩) H lc,.int .i64 r,.int .i64 c,.bool pd,.bool au] 26/\Has (wt.alloc (.cells [Value.int .i32 10].toArray 21)) ga [.int .i64 (r0:Int),.int .i64 (c0:Int)] 66/\Has (wt.alloc (.cells [Value.int .i32 10].toArray 21)) gb [.int .i64 (r1:Int),.int .i64 (c1:Int)] 66/\Below w.heap.size w (wt.alloc (.cells [Value.int .i32 10].toArray 21))/\B<=(wt.alloc (.cells [Value.int .i32 10].toArray 21)).heap.size from ⟨iA.out.1.below gE iA.out.1.lt,iA.out.2.1.below gE iA.out.2.1.lt,iA.out.2.2.1.below gE iA.out.2.2.1.lt,iA.out.2.2.2.1.trans (gE.mono iA.out.2.2.2.1.size),Nat.le_trans iA.out.2.2.2.2 gE.size⟩);have iT:=aa ij;clear ij gE hq
            go_wp2_with (at_builtin;refine ai (E:=aA .i32) (Z:=fun _=>True) rfl (.tmp 119) (.tmp 120) 57 rfl (.int .i32 0) 4 Tryd.underlying57 aF rfl (Nat.lt_succ_self 0) rfl rfl kU.out HX.out (by have:=lS.out;simp only [List.length_cons,List.length_nil];omega) (by have:=lS.out;simp only [List.length_cons,List.length_nil];omega) iI.out.2.2.2.2 ?_)
            intro v2 w5 hO hb2 ik _;have hno:∀ b,b<B->u7.ownBlock≠some b:=fun b hlt e=>by have:=(iT.out b e).1;omega
            rw [<-HE.out] at hO;have HF:=aa (And.intro hO (show Has w5 w.heap.size [.int .i64 (W:Int),.int .i64 (H:Int),.slice (some ⟨lb,off,none⟩) H lc,.int .i64 r,.int .i64 c,.bool pd,.bool au] 26/\Has w5 ga [.int .i64 (r0:Int),.int .i64 (c0:Int)] 66/\Has w5 gb [.int .i64 (r1:Int),.int .i64 (c1:Int)] 66/\Below w.heap.size w w5/\B<=w5.heap.size from ⟨ik.has iI.out.1 (hno _ hY.out.1),ik.has iI.out.2.1 (hno _ hY.out.2.1),ik.has iI.out.2.2.1 (hno _ hY.out.2.2),iI.out.2.2.2.1.trans (hb2.mono (Nat.le_of_lt hY.out.1)),Nat.le_trans iI.out.2.2.2.2 hb2.size⟩));clear hO hb2 ik hno;go_wp2
            go_roundw
            case rel=>exact ⟨n+1,by omega,by omega,by go_num,HF.out⟩
            case measure=>simp [intOf] <;> omega
           |false =>
            have HE:=aa (show cR Ls W r0 c0 r1 c1 (n+1)=P0 from by
             rw [nS.out,if_neg (fun h=>by have hq:=k9.out;rw [decide_eq_true h.1,h.2] at hq;exact absurd hq (by decide)),List.append_nil])
            go_wp2
            go_roundw
            case rel=>exact ⟨n+1,by omega,by omega,by go_num,by rw [HE.out];exact kg.out,iA.out⟩
            case measure=>simp [intOf] <;> omega
  ·obtain rfl:n=r1+1:=by omega
   have d1:decide (((r1+1:Nat):Int)<=(r1:Int))=false:=ah (by omega);have HE:=aa (show cR Ls W r0 c0 r1 c1 (r1+1)=bR Ls W r0 c0 r1 c1 from if_neg (by omega));have HF:=aa (And.intro (HO.out.base (Nat.le_of_lt hY.out.1)) iB.out.2.2.2.1);go_wp2;go_ret;exact ⟨_,rfl,by rw [<-HE.out];exact HF.out.1,HF.out.2⟩
end Go.Proofs.YthdphijabffpiaaDoor
