import Derived.Test.YthdphijabffpiaaDoorZ0
import Derived.Test.YthdphijabffpiaaDoorMg6
import Derived.Test.YthdphijabffpiaaDoorMg3
import Derived.Lib.MinMax
import Derived.Deep.Cut
set_option maxRecDepth 100000
set_option linter.unusedVariables false
set_option linter.unusedSimpArgs false
set_option maxHeartbeats 3000000
namespace Go.Proofs.YthdphijabffpiaaDoor
open Go.RowKit Go.ChangeShapes Go.WideShapes
theorem dd(L:List Cl)(f t j:Nat):aP L f t (j+1)=aP L f t j++(if f<=j/\j<=t then cC (L.getD j zc) else []):=by
 unfold aP;rw [List.range_succ,List.flatMap_append]
 simp
theorem dv{L:List Cl}(h:a9 L L.length=true)(f t:Nat):∀ j,j<=L.length->(aP L f t j).length<=17 * j
 |0,_=>by simp [aP]
 |j+1,hj=>by
  have ih:=dv h f t j (by omega);have hx:(cC (L.getD j zc)).length<=17:=by
   rw [List.getD_eq_getElem?_getD,List.getElem?_eq_getElem (show j<L.length by omega)];exact eL h _ (List.getElem_mem _)
  rw [dd,List.length_append]
  split
  ·omega
  ·simp;omega
theorem fM(L:List Cl)(m:Nat)(h:aX L m=aQ L)(hq:∀ k,m=k+1->(L.getD k zc).1≠0):m=aQ L:=by
 cases m with
 |zero=>rw [<-h];rfl
 |succ k =>
  unfold aX at h;rw [if_neg (hq k rfl)] at h;exact h
theorem fj{L:List Cl}(h:a9 L L.length=true)(h0:0<L.length):a8 L (L.length - 1)=L.length - 1:=by
 unfold a8
 split
 ·next hk=>have:=(bR L h).1 (L.length - 1) (by omega) hk;omega
 ·rfl
def a5(m:Nat):Int:=(m:Int) - 1
def cP(Ls:List Ln)(W r0 c0 r1 c1 n:Nat):List Int:=if n<=r1 then bm Ls W r0 c0 r1 c1 (n - r0) else bs Ls W r0 c0 r1 c1
theorem eJ(Ls:List Ln)(W r0 c0 r1 c1 n:Nat)(g:Bool)(L:List Cl)(hL:L=(Ls.getD n zl).1)(hg:g=(Ls.getD n zl).2)(hl:L.length=W)(gS:a9 L L.length=true)(ke:r0<=n)(jl:n<=r1)(hc0:c0<W)(hc1:c1<W)(h0:0<W)
  (F T m:Nat) (hF:F=bi L (aW r0 c0 n)) (hT:T=a8 L (toN W r1 c1 n)) (hm:m=if n<r1 then cT L g else W) :
  cP Ls W r0 c0 r1 c1 (n+1)=bm Ls W r0 c0 r1 c1 (n - r0)++aP L F T m++(if n<r1/\g=false then [10] else []):=by
 have hf:aW r0 c0 n<L.length:=by unfold aW;split <;> omega
 have ht:toN W r1 c1 n<L.length:=by unfold toN;split <;> omega
 have hFl:bi L (aW r0 c0 n)<L.length:=by unfold bi;split <;> omega
 unfold cP
 by_cases h:n<r1
 ·have htn:toN W r1 c1 n=L.length - 1:=by unfold toN;rw [if_neg (by omega)];omega
  rw [if_pos (by omega),show n+1 - r0=(n - r0)+1 by omega];show _++bf (dJ Ls W r0 c0 r1 c1 (r0+(n - r0))) (Ls.getD (r0+(n - r0)) zl).2=_;rw [show r0+(n - r0)=n by omega,<-hg];unfold dJ;rw [<-hL,htn,fu L _ g hFl (fj gS (by omega)),List.append_assoc,hm,if_pos h,hF,hT,htn]
  cases g with
  |true=>rw [if_pos rfl,if_neg (by simp)]
  |false=>rw [if_neg (by decide),if_pos ⟨h,rfl⟩]
 ·obtain rfl:n=r1:=by omega
  rw [if_neg (by omega),if_neg (by omega),List.append_nil];unfold bs dJ;have jK:a8 L (toN W n c1 n)<L.length:=by
   unfold a8
   split
   ·next hk=>exact ((bR L gS).1 _ ht hk).1
   ·exact ht
  rw [<-hL,fO L _ _ jK,hm,if_neg (by omega),hF,hT,hl]
theorem fk(L:List Cl)(W r0 c0 r1 c1 n j:Nat)(hl:L.length=W)(gS:a9 L L.length=true)(ke:r0<=n)(jl:n<=r1)(hcc:r0=r1->c0<=c1)(hc0:c0<W)(hc1:c1<W)(hj:j<W) :
  dL (L.getD j zc).1 n j r0 c0 r1 c1=decide (bi L (aW r0 c0 n)<=j/\j<=a8 L (toN W r1 c1 n)):=by
 have hk:=bR L gS;have iB:aW r0 c0 n<=toN W r1 c1 n:=by unfold aW toN;split <;> split <;> omega
 have jK:toN W r1 c1 n<L.length:=by unfold toN;split <;> omega
 have h1:=fq L (aW r0 c0 n) (toN W r1 c1 n) j iB jK (by omega) hk.1 hk.2;have h2:=fr (L.getD j zc).1 W n r0 c0 r1 c1 (aW r0 c0 n) (toN W r1 c1 n) j ⟨by omega,by omega⟩ (by unfold aW;by_cases e:n=r0;rw [if_pos e,if_pos (by omega)];rw [if_neg e,if_neg (by omega)];rfl) (by unfold toN;by_cases e:n=r1;rw [if_pos e,if_pos (by omega)];rw [if_neg e,if_neg (by omega)];omega) hj (fun e=>by have:=(hk.1 j (by omega) e).1;omega) (fun e=>(hk.2 j (by omega) e).1);unfold inB at h1;rw [Bool.eq_iff_iff,h2,h1,decide_eq_true_eq]
theorem eK(v:Vw)(lv:Value)(W H:Nat)(hn:NatV v W H)(r0 c0 r1 c1:Nat)(hle:r0<=r1)(hcc:r0=r1->c0<=c1)(hr1:r1<H)(hc0:c0<W)(hc1:c1<W)(w:World)(hv:ViewAt w v lv):Calls Tryd.prog 38 #[aE v lv,.agg #[.int .i64 (r0:Int),.int .i64 (c0:Int)],.agg #[.int .i64 (r1:Int),.int .i64 (c1:Int)]] w (dO (aB .i32) (fun _=>True) 21 w (bs v.L W r0 c0 r1 c1)):=by
 have HN:=aa hn;obtain ⟨vv,gY⟩:=ab (v);rw [<-gY] at HN;obtain ⟨vw,vh,Ls,r,c,pd,au⟩:=v;have hw:=hn.wide;have hh:=hn.high;have kP:=hn.w1;have hw2:=hn.w2;have hh2:=hn.h2;simp only at hw hh;subst hw;subst hh;obtain ⟨lo,lc,elv⟩:=hv.1.len;rw [hn.len] at elv;subst elv;have jm:=aJ hv.1;simp only at jm;have hlc:=jm.2.1;have i9:=aa jm.2.2;have jW:=aa (fun i (hi:i<H)=>hn.row i hi);have kS:=aa (fun k (hk:r0+k<=H)=>cB hn r0 c0 r1 c1 k hk);have ju:=aa (show Ls.length=H from hn.len);simp only at jW kS;unfold aE;simp only;obtain ⟨Wa,gD⟩:=ab (w.alloc (.cells ([.int .i64 (W:Int),.int .i64 (H:Int),.slice lo H lc,.int .i64 r,.int .i64 c,.bool pd,.bool au]:List Value).toArray 26));obtain ⟨Wb,gE⟩:=ab (Wa.alloc (.cells ([.int .i64 (r0:Int),.int .i64 (c0:Int)]:List Value).toArray 66));obtain ⟨Wc,ia⟩:=ab (Wb.alloc (.cells ([.int .i64 (r1:Int),.int .i64 (c1:Int)]:List Value).toArray 66));have ba:Below w.heap.size w Wa:=by rw [gD];exact af _ _
 have bb:Below Wa.heap.size Wa Wb:=by rw [gE];exact af _ _
 have bc:Below Wb.heap.size Wb Wc:=by rw [ia];exact af _ _
 have sa':Wa.heap.size=w.heap.size+1:=by rw [gD];exact Array.size_push _
 have sb:Wb.heap.size=w.heap.size+2:=by rw [gE,<-Nat.add_assoc w.heap.size 1 1,<-sa'];exact Array.size_push _
 have gva:Has Wa w.heap.size [.int .i64 (W:Int),.int .i64 (H:Int),.slice lo H lc,.int .i64 r,.int .i64 c,.bool pd,.bool au] 26:=by rw [gD];exact Has.new w _ _
 have gaa:Has Wb Wa.heap.size [.int .i64 (r0:Int),.int .i64 (c0:Int)] 66:=by rw [gE];exact Has.new Wa _ _
 have gba:Has Wc Wb.heap.size [.int .i64 (r1:Int),.int .i64 (c1:Int)] 66:=by rw [ia];exact Has.new Wb _ _
 have gva:=Has.below (Has.below gva bb gva.lt) bc (Has.below gva bb gva.lt).lt;have gaa:=Has.below gaa bc gaa.lt;rw [sa'] at gaa;rw [sb] at gba;obtain ⟨ga,je⟩:=ab (w.heap.size+1);obtain ⟨gb,hgb⟩:=ab (w.heap.size+2);rw [<-je] at gaa;rw [<-hgb] at gba;have g6:=aa je;have hO:=aa hgb;obtain ⟨B,hB⟩:=ab (Wc.heap.size);have gP:=aa (show w.heap.size<B/\ga<B/\gb<B from by rw [hB];exact ⟨gva.lt,gaa.lt,gba.lt⟩);have kp:=aa (show Has Wc w.heap.size [.int .i64 (W:Int),.int .i64 (H:Int),.slice lo H lc,.int .i64 r,.int .i64 c,.bool pd,.bool au] 26/\Has Wc ga [.int .i64 (r0:Int),.int .i64 (c0:Int)] 66/\Has Wc gb [.int .i64 (r1:Int),.int .i64 (c1:Int)] 66/\Below w.heap.size w Wc/\B<=Wc.heap.size from ⟨gva,gaa,gba,ba.trans ((bb.mono ba.size).trans (bc.mono (Nat.le_trans ba.size bb.size))),by omega⟩);have k0:=gaa.cell 0 _ rfl;have iw:=aa (show ((w.alloc (.cells #[.int .i64 (W:Int),.int .i64 (H:Int),.slice lo H lc,.int .i64 r,.int .i64 c,.bool pd,.bool au] 26)).alloc (.cells #[.int .i64 (r0:Int),.int .i64 (c0:Int)] 66)).alloc (.cells #[.int .i64 (r1:Int),.int .i64 (c1:Int)] 66)=Wc from by rw [ia,gE,gD]);have lL:=aa hcc;clear gD gE ia gva gaa gba ba bb bc sa' sb je hgb hv gY jm hB hcc hn HN
 go_enter Tryd.func38,Tryd.ntmps38
 go_upto_region 2 with (fail)
 rw [iw.out];rw [show w.heap.size+1+1=gb from by have:=hO.out;omega,<-g6.out];go_wp2
 go_loopw [7,8] (fun t i wr=>∃ n:Nat,r0<=n/\n<=r1+1/\i=.int .i64 n/\OwnE (aB .i32) (fun _=>True) wr B 21 t (cP Ls W r0 c0 r1 c1 n)/\Has wr w.heap.size [.int .i64 (W:Int),.int .i64 (H:Int),.slice lo H lc,.int .i64 r,.int .i64 c,.bool pd,.bool au] 26/\Has wr ga [.int .i64 (r0:Int),.int .i64 (c0:Int)] 66/\Has wr gb [.int .i64 (r1:Int),.int .i64 (c1:Int)] 66/\Below w.heap.size w wr/\B<=wr.heap.size) (fun _ i _=>r1+2 - (intOf i).toNat)
 case atStart=>exact ⟨r0,Nat.le_refl _,by omega,rfl,by unfold cP;rw [if_pos hle,Nat.sub_self];exact OwnE.nil _ _ _ _ _,kp.out⟩
 case round =>
  clear k0 kp;obtain ⟨n,ke,jl,rfl,hown,iT⟩:=hrel;obtain ⟨wo,kA⟩:=ab (wr);subst kA;have ic:=aa iT;have HO:=aa hown;have q2:=iT.1.cell 2 _ rfl;have k2:=iT.2.2.1.cell 0 _ rfl;clear hown iT
  by_cases hlt:n<=r1
  ·have hln:(n:Int)<=(r1:Int):=by omega
   obtain ⟨lb,off,cv,rfl,jo,_,l0,l1,hcv⟩:=i9.out n (by have:=ju.out;omega);have il:=jW.out n (by omega);obtain ⟨L,hL⟩:=ab ((Ls.getD n zl).1);obtain ⟨g,hg⟩:=ab ((Ls.getD n zl).2);rw [<-hL] at il hcv;rw [<-hg] at l1;have gS:=il.2;rw [<-il.1] at gS;obtain ⟨co,cc,ecv⟩:=hcv.len;rw [il.1] at ecv;subst ecv;obtain ⟨jO,hccap,it⟩:=aL hcv;clear jO;obtain ⟨F,hF⟩:=ab (bi L (aW r0 c0 n));obtain ⟨T,hT⟩:=ab (a8 L (toN W r1 c1 n));obtain ⟨mN,mW⟩:=ab (if n<r1 then cT L g else W);have hmW:mN<=W:=by
    rw [mW]
    split
    ·unfold cT
     split
     ·split <;> omega
     ·have:=bU L;omega
    ·exact Nat.le_refl _
   have mD:=aa (eJ Ls W r0 c0 r1 c1 n g L hL hg il.1 gS ke hlt hc0 hc1 kP F T mN hF hT mW);have HBP:=aa (fun j (hj:j<W)=>fk L W r0 c0 r1 c1 n j il.1 gS ke hlt lL.out hc0 hc1 hj);have lE:=aa (kS.out (n - r0) (by omega));have HPL:=aa (fun j (hj:j<=L.length)=>dv gS F T j hj);have jp:=aa (show cP Ls W r0 c0 r1 c1 n=bm Ls W r0 c0 r1 c1 (n - r0) from if_pos hlt);have km:=aa il.1;have jw:=aa mW;have nf:=aa hmW;have ig:Below w.heap.size w wo:=ic.out.2.2.2.1;have nh:=aa it;have j8:=aa hcv;have le:=aa (And.intro jo (And.intro l0 l1));have l0:=(ig.cell (p:=⟨lb,off+n * 2,none⟩) jo).trans l0;have l1:=(ig.cell (p:=⟨lb,off+n * 2+1,none⟩) jo).trans l1;rw [<-hF,<-hT] at HBP;have hnh:(n:Int)<(H:Int):=by omega
   have nd:n<lc:=by have:=ju.out;omega
   obtain ⟨m1,lC⟩:=ab (W - 1);have lF:IntKind.i64.wrap ((W:Int) - 1)=(m1:Int):=by rw [IntKind.wrap_i64];omega
   obtain ⟨cb,coff,tv1,rfl,hcb,_,x0,_,_⟩:=nh.out m1 (by have:=km.out;omega);have x0:=(ig.cell (p:=⟨cb,coff+m1 * 2,none⟩) hcb).trans x0;have k8:=aa lC;have hm1c:m1<cc:=by omega
   have hm1w:(m1:Int)<(W:Int):=by omega
   clear jo hcv it hL hg il gS hF hT mW hmW ig jW kS hcb lC
   go_upto_region 7 with (fail)
   obtain ⟨K1,kj⟩:=ab ((L.getD m1 zc).1);have j4:=aa kj;rw [<-kj] at x0;clear kj;obtain ⟨q7,hq7⟩:=ab ((decide (n<r1) && g && decide (K1=0)));have mP:=aa hq7;clear hq7
   go_cut [48] from 29 to 48 (fun cv wx=>cv=.bool q7/\wx=wo)
   case first =>
    by_cases h1:n<r1
    ·have d1:decide ((n:Int)<(r1:Int))=true:=ag (by omega);have d2:decide (n<r1)=true:=decide_eq_true h1;have hq:=mP.out;rw [d2,Bool.true_and] at hq;have HD:=aa (And.intro d1 d2);clear h1
     cases g with
     |false =>
      rw [Bool.false_and] at hq;go_wp2;go_meet
      case rel=>exact ⟨by rw [hq],rfl⟩
     |true =>
      rw [Bool.true_and] at hq
      by_cases h3:K1=0
      ·subst h3;have iU:=aa (show q7=true from hq);clear hq;go_wp2;go_meet
       case rel=>exact ⟨by rw [iU.out],rfl⟩
      ·have d3:(K1 == 0)=false:=by rw [beq_eq_false_iff_ne];exact h3
       rw [decide_eq_false h3] at hq;clear h3;go_wp2;go_meet
       case rel=>exact ⟨by rw [hq],rfl⟩
    ·have d1:decide ((n:Int)<(r1:Int))=false:=ah (by omega);have d2:decide (n<r1)=false:=decide_eq_false h1;have hq:=mP.out;rw [d2,Bool.false_and,Bool.false_and] at hq;clear h1;go_wp2;go_meet
     case rel=>exact ⟨by rw [hq],rfl⟩
   case rest =>
    obtain ⟨rfl,iu⟩:=hcut;obtain ⟨wq,iD⟩:=ab (wc);subst iD;have iu:=iu.symm;subst iu;obtain ⟨m2,jP⟩:=ab (if q7=true then W - 1 else W);obtain ⟨P,hP⟩ : ∃ P:Nat->Prop,P=fun m=>(n<r1/\g=false->aX L m=aQ L)/\(¬ (n<r1/\g=false)->m=mN):=⟨_,rfl⟩
    have hP2:P m2:=by
     have hq:=mP.out;have hk:=j4.out;have hmn:=jw.out;rw [k8.out] at hk;rw [hP];constructor
     ·rintro ⟨e1,e2⟩;rw [e2,Bool.and_false,Bool.false_and] at hq;rw [hq] at jP;rw [jP,if_neg (by decide),<-km.out]
      rfl
     ·intro hne;rw [hmn,jP]
      by_cases e1:n<r1
      ·have hg:g=true:=by cases g with | true=>rfl | false=>exact absurd ⟨e1,rfl⟩ hne
       rw [if_pos e1];unfold cT;rw [if_pos hg,km.out,<-hk,hq,hg,decide_eq_true e1]
       by_cases e3:K1=0
       ·rw [if_pos e3,decide_eq_true e3,if_pos (by decide)]
       ·rw [if_neg e3,decide_eq_false e3,if_neg (by decide)]
      ·rw [if_neg e1,hq,decide_eq_false e1,Bool.false_and,Bool.false_and,if_neg (by decide)]
    have hPs:∀ m,P (m+1)->n<r1->g=false->(L.getD m zc).1=0->P m:=by
     intro m hp e1 e2 e3;rw [hP] at hp ⊢;refine ⟨fun h=>?_,fun h=>absurd ⟨e1,e2⟩ h⟩;have h1:=hp.1 h;unfold aX at h1;rw [if_pos e3] at h1;exact h1
    have hPe:∀ m,P m->¬ (n<r1/\g=false/\0<m/\(L.getD (m - 1) zc).1=0)->m=mN:=by
     intro m hp hne;rw [hP] at hp
     by_cases h:n<r1/\g=false
     ·have h1:=hp.1 h;have h2:=fM L m h1 (fun k e hk=>hne ⟨h.1,h.2,by omega,by rw [e];exact hk⟩);rw [h2,jw.out,if_pos h.1];unfold cT;rw [h.2];exact (if_neg (by decide)).symm
     ·exact hp.2 h
    have my:=aa hP2;have HPS:=aa hPs;have HPE:=aa hPe;have mj:=aa (show m2<=W from by rw [jP];split <;> omega);have HI1:=aa (show q7=true->IntKind.i64.wrap ((m1:Int) - 1)=a5 m2 from fun e=>by rw [jP,if_pos e,IntKind.wrap_i64];unfold a5;have:=k8.out;omega);have HI2:=aa (show q7=false->(m1:Int)=a5 m2 from fun e=>by rw [jP,e,if_neg (by decide)];unfold a5;have:=k8.out;omega);clear jP hP2 hPs hPe hP mP j4 x0 jw lF hm1c hm1w
    go_upto_if 48 with (fail)
    go_cut [10] from 49 to 50 (fun lv wx=>lv=.int .i64 (a5 m2)/\wx=wo)
    case first =>
     cases q7 with
     |true =>
      have hi:=HI1.out rfl;go_wp2;go_meet
      case rel=>exact ⟨rfl,rfl⟩
     |false =>
      have hi:=aa (HI2.out rfl);go_wp2;go_meet
      case rel=>exact ⟨by rw [hi.out],rfl⟩
    case rest =>
     obtain ⟨rfl,iu⟩:=hcut;obtain ⟨wp,lI⟩:=ab (wc);subst lI;have iu:=iu.symm;subst iu;clear HI1 HI2 k8;go_wp2
     go_loopw [10] (fun lv wr=>∃ m:Nat,m<=W/\lv=.int .i64 (a5 m)/\P m/\wr=wo) (fun lv _=>(intOf lv+1).toNat)
     case atStart=>exact ⟨m2,mj.out,rfl,my.out,rfl⟩
     case round =>
      obtain ⟨m,hm,rfl,hp,rfl⟩:=hrel;have HP:=aa hp;clear hp my mj;obtain ⟨q9,hq9⟩:=ab ((decide (n<r1) && !g && decide (0<m) && decide ((L.getD (m - 1) zc).1=0)));have lA:=aa hq9;clear hq9
      go_upto_region 9 with (fail)
      go_cut [10,75] from 51 to 75 (fun lv cv wx=>lv=.int .i64 (a5 m)/\cv=.bool q9/\wx=wr)
      case first =>
       have hq:=lA.out;clear lA
       by_cases h1:n<r1
       ·have d1:decide ((n:Int)<(r1:Int))=true:=ag (by omega);have d2:decide (n<r1)=true:=decide_eq_true h1;rw [d2,Bool.true_and] at hq;clear h1
        cases g with
        |true =>
         have iU:=aa (show q9=false from hq);clear hq;go_wp2;go_meet
         case rel=>exact ⟨rfl,by rw [iU.out],rfl⟩
        |false =>
         cases m with
         |zero =>
          have iU:=aa (show q9=false from hq);rw [show a5 0 = -1 from rfl];clear hq;go_wp2;go_meet
          case rel=>exact ⟨rfl,by rw [iU.out],rfl⟩
         |succ k =>
          have kf:=aa (show a5 (k+1)=(k:Int) from by unfold a5;omega);rw [kf.out];have hq:q9=decide ((L.getD k zc).1=0):=by rw [hq,decide_eq_true (show 0<k+1 by omega)];rfl
          obtain ⟨cb2,coff2,tv2,e2,hcb,_,x0,_,_⟩:=nh.out k (by have:=km.out;omega)
          cases e2
          have x0:=(ic.out.2.2.2.1.cell (p:=⟨cb,coff+k * 2,none⟩) hcb).trans x0;have ks:k<cc:=by omega
          have hkw:(k:Int)<(W:Int):=by omega
          clear hcb;generalize (L.getD k zc).1=K at x0 hq
          by_cases h3:K=0
          ·subst h3;have iU:=aa (show q9=true from hq);clear hq;go_wp2;go_meet
           case rel=>exact ⟨by rw [kf.out],by rw [iU.out],rfl⟩
          ·have d3:(K == 0)=false:=by rw [beq_eq_false_iff_ne];exact h3
           rw [decide_eq_false h3] at hq;have iU:=aa hq;clear h3 hq;go_wp2;go_meet
           case rel=>exact ⟨by rw [kf.out],by rw [iU.out],rfl⟩
       ·have d1:decide ((n:Int)<(r1:Int))=false:=ah (by omega);have d2:decide (n<r1)=false:=decide_eq_false h1;rw [d2,Bool.false_and,Bool.false_and,Bool.false_and] at hq;have iU:=aa hq;clear h1 hq;go_wp2;go_meet
        case rel=>exact ⟨rfl,by rw [iU.out],rfl⟩
      case rest =>
       obtain ⟨rfl,rfl,iu⟩:=hcut;obtain ⟨wp,lI⟩:=ab (wc);subst lI;subst iu
       cases q9 with
       |true =>
        have hq:=lA.out.symm;simp only [Bool.and_eq_true,Bool.not_eq_true',decide_eq_true_eq] at hq;obtain ⟨⟨⟨e1,e2⟩,e3⟩,e4⟩:=hq;obtain ⟨k,rfl⟩ : ∃ k,m=k+1:=⟨m - 1,by omega⟩;have HPK:=aa (HPS.out k HP.out e1 e2 e4);have kD:IntKind.i64.wrap (a5 (k+1) - 1)=a5 k:=by unfold a5;rw [IntKind.wrap_i64];omega
        have HMS:=aa (show (a5 k+1).toNat<(a5 (k+1)+1).toNat from by unfold a5;omega);clear e1 e2 e3 e4 lA;go_wp2
        go_roundw
        case rel=>exact ⟨k,by omega,rfl,HPK.out,trivial⟩
        case measure=>exact HMS.out
       |false =>
        have lN:m=mN:=HPE.out m HP.out (fun h=>by
         have hq:=lA.out;rw [decide_eq_true h.1,h.2.1,decide_eq_true h.2.2.1,decide_eq_true h.2.2.2] at hq;exact absurd hq (by decide))
        subst lN;clear lA HPE HPS HP hm;obtain ⟨T0,hT0⟩:=ab (bm Ls W r0 c0 r1 c1 (n - r0));rw [<-hT0] at jp lE mD;have HOT:=aa (show OwnE (aB .i32) (fun _=>True) wp B 21 u7 T0 from by rw [<-jp.out];exact HO.out);clear hT0 jp HO;go_wp2
        go_loopw [7,11] (fun t kv wr=>∃ j:Nat,j<=m/\kv=.int .i64 j/\OwnE (aB .i32) (fun _=>True) wr B 21 t (T0++aP L F T j)/\Has wr w.heap.size [.int .i64 (W:Int),.int .i64 (H:Int),.slice (some ⟨lb,off,none⟩) H lc,.int .i64 r,.int .i64 c,.bool pd,.bool au] 26/\Has wr ga [.int .i64 (r0:Int),.int .i64 (c0:Int)] 66/\Has wr gb [.int .i64 (r1:Int),.int .i64 (c1:Int)] 66/\Below w.heap.size w wr/\B<=wr.heap.size) (fun _ kv _=>m+1 - (intOf kv).toNat)
        case atStart=>exact ⟨0,Nat.zero_le _,rfl,by rw [show aP L F T 0=[] from rfl,List.append_nil];exact HOT.out,ic.out⟩
        case round =>
         obtain ⟨j,hj,rfl,hown,iT⟩:=hrel;obtain ⟨ws,mT⟩:=ab (wr);subst mT;clear HOT ic q2 k2 l0 l1;have ie:=aa iT;have jX:=aa hown;clear hown iT;obtain ⟨z,hz⟩:=ab (a5 m);rw [<-hz];have HZZ:=aa hz
         by_cases hjm:j<m
         ·have d1:decide ((j:Int)<=z)=true:=by rw [decide_eq_true_eq,hz];unfold a5;omega
          clear hz;have hjW:j<W:=by have:=nf.out;omega
          obtain ⟨cb2,coff2,tv,e2,hcb,_,x0,x1,hh⟩:=nh.out j (by have:=km.out;omega)
          cases e2
          have ig:=ie.out.2.2.2.1;have lr:=aa (hh.zone (Y:=fun b=>b<w.heap.size) (fun b hb _=>hb));obtain ⟨⟨K,X⟩,hKX⟩ : ∃ y,y=L.getD j zc:=⟨_,rfl⟩;have jx:=aa (fun (w':World) (h:Below w.heap.size w w')=>And.intro ((h.cell (p:=⟨cb,coff+j * 2,none⟩) hcb).trans x0) ((h.cell (p:=⟨cb,coff+j * 2+1,none⟩) hcb).trans x1));obtain ⟨qb,mE⟩:=ab (decide (F<=j/\j<=T));have kB:=aa (er (fun _=>True) (.slice (some ⟨cb,coff,none⟩) W cc) L j n r0 c0 r1 c1 ws (j8.out.below ig) (by have:=km.out;omega));rw [HBP.out j hjW,<-mE] at kB;have mS:=dd L F T j;have HPB:=aa (HPL.out (j+1) (by have:=km.out;omega));rw [<-hKX] at mS lr jx;have HPN:=aa (show qb=false->aP L F T (j+1)=aP L F T j from fun e=>by rw [mS,if_neg (by rw [mE,decide_eq_false_iff_not] at e;exact e),List.append_nil]);have HPY:=aa (show qb=true->aP L F T (j+1)=aP L F T j++cC (K,X) from fun e=>by rw [mS,if_pos (by rw [mE,decide_eq_true_eq] at e;exact e)]);have k0:=ie.out.2.1.cell 0 _ rfl;have k1:=ie.out.2.1.cell 1 _ rfl;have k2:=ie.out.2.2.1.cell 0 _ rfl;have k3:=ie.out.2.2.1.cell 1 _ rfl;have hjc:j<cc:=by omega
          have hjw:(j:Int)<(W:Int):=by omega
          simp only at lr jx;clear x0 x1 hh hcb hKX mE mS ig
          go_wp2_with fail
          refine kB.out.mono ?_;rintro e w4 ⟨rfl,b4⟩;have iJ:=aa (show Has w4 w.heap.size [.int .i64 (W:Int),.int .i64 (H:Int),.slice (some ⟨lb,off,none⟩) H lc,.int .i64 r,.int .i64 c,.bool pd,.bool au] 26/\Has w4 ga [.int .i64 (r0:Int),.int .i64 (c0:Int)] 66/\Has w4 gb [.int .i64 (r1:Int),.int .i64 (c1:Int)] 66/\Below w.heap.size w w4/\B<=w4.heap.size from ⟨ie.out.1.below b4 ie.out.1.lt,ie.out.2.1.below b4 ie.out.2.1.lt,ie.out.2.2.1.below b4 ie.out.2.2.1.lt,ie.out.2.2.2.1.trans (b4.mono ie.out.2.2.2.1.size),Nat.le_trans ie.out.2.2.2.2 b4.size⟩);have lZ:=aa (jX.out.below b4);clear b4 k0 k1 k2 k3 jX ie kB
          cases qb with
          |false =>
           have HE:=aa (HPN.out rfl);go_wp2
           go_roundw
           case rel=>exact ⟨j+1,by omega,by go_num,by rw [HE.out];exact lZ.out,iJ.out⟩
           case measure=>simp [intOf] <;> omega
          |true =>
           have kt:=HPY.out rfl;unfold cC at kt;simp only at kt;have jA:=aa (show (T0++aP L F T (j+1)).length<=30000000 from by rw [List.length_append];have:=HPB.out;have:=lE.out;omega);obtain ⟨P0,jT⟩:=ab (T0++aP L F T j);have mt:=aa jT;rw [<-jT] at lZ;clear jT;have ij:=lZ.out.lt;have x0:=(jx.out _ iJ.out.2.2.2.1).1
           by_cases hk0:K=0
           ·subst hk0;rw [if_pos rfl] at kt;have HE:=aa (show T0++aP L F T (j+1)=P0++32 :: X from by rw [kt,mt.out];simp);have jc:=aa (show P0.length+1+X.length<=30000000 from by have:=jA.out;rw [HE.out,List.length_append,List.length_cons] at this;omega);have HX:=aa (show HeldE (aB .i32) (fun b=>True/\u7.ownBlock≠some b) (w4.alloc (.cells [Value.int .i32 32].toArray 21)) (.slice (some ⟨w4.heap.size,0,none⟩) 1 1) [32] from bj (Y:=fun _=>False) [.int .i32 32] 32 rfl (fun _ _ h=>h.elim) ⟨trivial,fun e=>by have:=(ij _ e).2;omega⟩);have gF:Below w4.heap.size w4 (w4.alloc (.cells [Value.int .i32 32].toArray 21)):=af _ _;have mq:=aa (lZ.out.below gF);have io:=aa (show Has (w4.alloc (.cells [Value.int .i32 32].toArray 21)) w.heap.size [.int .i64 (W:Int),.int .i64 (H:Int),.slice (some ⟨lb,off,none⟩) H lc,.int .i64 r,.int .i64 c,.bool pd,.bool au] 26/\Has (w4.alloc (.cells [Value.int .i32 32].toArray 21)) ga [.int .i64 (r0:Int),.int .i64 (c0:Int)] 66/\Has (w4.alloc (.cells [Value.int .i32 32].toArray 21)) gb [.int .i64 (r1:Int),.int .i64 (c1:Int)] 66/\Below w.heap.size w (w4.alloc (.cells [Value.int .i32 32].toArray 21))/\B<=(w4.alloc (.cells [Value.int .i32 32].toArray 21)).heap.size from ⟨iJ.out.1.below gF iJ.out.1.lt,iJ.out.2.1.below gF iJ.out.2.1.lt,iJ.out.2.2.1.below gF iJ.out.2.2.1.lt,iJ.out.2.2.2.1.trans (gF.mono iJ.out.2.2.2.1.size),Nat.le_trans iJ.out.2.2.2.2 gF.size⟩);have iE:=aa ij;clear kt ij gF
            go_wp2_with (at_builtin;refine al (E:=aB .i32) (Z:=fun _=>True) rfl (.tmp 96) (.tmp 97) 57 rfl (.int .i32 0) 4 Tryd.underlying57 aK rfl (Nat.lt_succ_self 0) rfl rfl mq.out HX.out (by have:=jc.out;simp;omega) (by have:=jc.out;simp;omega) io.out.2.2.2.2 ?_)
            intro v2 w5 gU hb2 gZ _;have hno:∀ b,b<B->u7.ownBlock≠some b:=fun b hlt e=>by have:=(iE.out b e).1;omega
            have kw:=aa (show Has w5 w.heap.size [.int .i64 (W:Int),.int .i64 (H:Int),.slice (some ⟨lb,off,none⟩) H lc,.int .i64 r,.int .i64 c,.bool pd,.bool au] 26/\Has w5 ga [.int .i64 (r0:Int),.int .i64 (c0:Int)] 66/\Has w5 gb [.int .i64 (r1:Int),.int .i64 (c1:Int)] 66/\Below w.heap.size w w5/\B<=w5.heap.size from ⟨gZ.has io.out.1 (hno _ gP.out.1),gZ.has io.out.2.1 (hno _ gP.out.2.1),gZ.has io.out.2.2.1 (hno _ gP.out.2.2),io.out.2.2.2.1.trans (hb2.mono (Nat.le_of_lt gP.out.1)),Nat.le_trans io.out.2.2.2.2 hb2.size⟩);have jn:=gU.lt;have kQ:=aa jn;obtain ⟨tx,tc,etv⟩:=lr.out.len;have HU:=aa ((lr.out.below kw.out.2.2.2.1).zone (Y:=fun b=>True/\v2.ownBlock≠some b) (fun b _ hz=>⟨trivial,fun e=>by have:=(jn b e).1;have:=gP.out.1;omega⟩));have HO6:=aa gU;clear x0 gU hb2 gZ hno jn;have x1:=(jx.out _ kw.out.2.2.2.1).2;subst etv
            go_wp2_with (at_builtin;refine al (E:=aB .i32) (Z:=fun _=>True) rfl (.tmp 99) (.tmp 104) 57 rfl (.int .i32 0) 4 Tryd.underlying57 aK rfl (Nat.lt_succ_self 0) rfl rfl HO6.out HU.out (by have:=jc.out;simp;omega) (by have:=jc.out;simp;omega) kw.out.2.2.2.2 ?_)
            intro v3 w6 jC hb3 gZ _;rw [<-HE.out] at jC;have hno:∀ b,b<B->v2.ownBlock≠some b:=fun b hlt e=>by have:=(kQ.out b e).1;omega
            have HF:=aa (And.intro jC (show Has w6 w.heap.size [.int .i64 (W:Int),.int .i64 (H:Int),.slice (some ⟨lb,off,none⟩) H lc,.int .i64 r,.int .i64 c,.bool pd,.bool au] 26/\Has w6 ga [.int .i64 (r0:Int),.int .i64 (c0:Int)] 66/\Has w6 gb [.int .i64 (r1:Int),.int .i64 (c1:Int)] 66/\Below w.heap.size w w6/\B<=w6.heap.size from ⟨gZ.has kw.out.1 (hno _ gP.out.1),gZ.has kw.out.2.1 (hno _ gP.out.2.1),gZ.has kw.out.2.2.1 (hno _ gP.out.2.2),kw.out.2.2.2.1.trans (hb3.mono (Nat.le_of_lt gP.out.1)),Nat.le_trans kw.out.2.2.2.2 hb3.size⟩));clear x1 jC hb3 gZ hno;go_wp2
            go_roundw
            case rel=>exact ⟨j+1,by omega,by go_num,HF.out⟩
            case measure=>simp [intOf] <;> omega
           ·have ln:(K == 0)=false:=by rw [beq_eq_false_iff_ne];exact hk0
            rw [if_neg hk0,List.nil_append] at kt;have HE:=aa (show T0++aP L F T (j+1)=P0++X from by rw [kt,mt.out];simp);have jc:=aa (show P0.length+X.length<=30000000 from by have:=jA.out;rw [HE.out,List.length_append] at this;exact this);have kQ:=aa ij;obtain ⟨tx,tc,etv⟩:=lr.out.len;have HU:=aa ((lr.out.below iJ.out.2.2.2.1).zone (Y:=fun b=>True/\u7.ownBlock≠some b) (fun b _ hz=>⟨trivial,fun e=>by have:=(ij b e).1;have:=gP.out.1;omega⟩));have x1:=(jx.out _ iJ.out.2.2.2.1).2;subst etv;clear kt ij hk0
            go_wp2_with (at_builtin;refine al (E:=aB .i32) (Z:=fun _=>True) rfl (.tmp 99) (.tmp 104) 57 rfl (.int .i32 0) 4 Tryd.underlying57 aK rfl (Nat.lt_succ_self 0) rfl rfl lZ.out HU.out (by have:=jc.out;omega) (by have:=jc.out;omega) iJ.out.2.2.2.2 ?_)
            intro v3 w6 jC hb3 gZ _;rw [<-HE.out] at jC;have hno:∀ b,b<B->u7.ownBlock≠some b:=fun b hlt e=>by have:=(kQ.out b e).1;omega
            have HF:=aa (And.intro jC (show Has w6 w.heap.size [.int .i64 (W:Int),.int .i64 (H:Int),.slice (some ⟨lb,off,none⟩) H lc,.int .i64 r,.int .i64 c,.bool pd,.bool au] 26/\Has w6 ga [.int .i64 (r0:Int),.int .i64 (c0:Int)] 66/\Has w6 gb [.int .i64 (r1:Int),.int .i64 (c1:Int)] 66/\Below w.heap.size w w6/\B<=w6.heap.size from ⟨gZ.has iJ.out.1 (hno _ gP.out.1),gZ.has iJ.out.2.1 (hno _ gP.out.2.1),gZ.has iJ.out.2.2.1 (hno _ gP.out.2.2),iJ.out.2.2.2.1.trans (hb3.mono (Nat.le_of_lt gP.out.1)),Nat.le_trans iJ.out.2.2.2.2 hb3.size⟩));clear x0 x1 jC hb3 gZ hno;go_wp2
            go_roundw
            case rel=>exact ⟨j+1,by omega,by go_num,HF.out⟩
            case measure=>simp [intOf] <;> omega
         ·have d1:decide ((j:Int)<=z)=false:=by rw [decide_eq_false_iff_not,hz];unfold a5;omega
          clear hz;obtain rfl:j=m:=by omega
          have q2:=ie.out.1.cell 2 _ rfl;have k2:=ie.out.2.2.1.cell 0 _ rfl;have l1:=(ie.out.2.2.2.1.cell (p:=⟨lb,off+n * 2+1,none⟩) le.out.1).trans le.out.2.2
          go_upto_region 18 with (fail)
          obtain ⟨q18,hq18⟩:=ab ((decide (n<r1) && !g));have kk:=aa hq18;clear hq18
          go_cut [118] from 106 to 118 (fun cv wx=>cv=.bool q18/\wx=ws)
          case first =>
           have hq:=kk.out;clear kk
           by_cases h1:n<r1
           ·have d1:decide ((n:Int)<(r1:Int))=true:=ag (by omega);have d2:decide (n<r1)=true:=decide_eq_true h1;rw [d2,Bool.true_and] at hq;have iU:=aa hq;clear h1 hq
            cases g with
            |true =>
             go_wp2;go_meet
             case rel=>exact ⟨by rw [iU.out];rfl,rfl⟩
            |false =>
             go_wp2;go_meet
             case rel=>exact ⟨by rw [iU.out];rfl,rfl⟩
           ·have d1:decide ((n:Int)<(r1:Int))=false:=ah (by omega);have d2:decide (n<r1)=false:=decide_eq_false h1;rw [d2,Bool.false_and] at hq;have iU:=aa hq;clear h1 hq;go_wp2;go_meet
            case rel=>exact ⟨by rw [iU.out],rfl⟩
          case rest =>
           obtain ⟨rfl,iu⟩:=hcut;have iu:=iu.symm;obtain ⟨wt,hwt⟩:=ab (wc);subst hwt;have iu:=iu.symm;subst iu;obtain ⟨P0,jT⟩:=ab (T0++aP L F T j);rw [<-jT] at mD jX;have lD:=aa (show P0.length<=30000000 from by rw [jT,List.length_append];have:=HPL.out j (by have:=km.out;have:=nf.out;omega);have:=lE.out;have:=nf.out;omega);clear jT
           cases q18 with
           |true =>
            have hq:=kk.out.symm;simp only [Bool.and_eq_true,Bool.not_eq_true',decide_eq_true_eq] at hq;have HE:=aa (show cP Ls W r0 c0 r1 c1 (n+1)=P0++[10] from by rw [mD.out,if_pos hq]);have ij:=jX.out.lt;have HX:=aa (show HeldE (aB .i32) (fun b=>True/\u7.ownBlock≠some b) (wt.alloc (.cells [Value.int .i32 10].toArray 21)) (.slice (some ⟨wt.heap.size,0,none⟩) 1 1) [10] from bj (Y:=fun _=>False) [.int .i32 10] 10 rfl (fun _ _ h=>h.elim) ⟨trivial,fun e=>by have:=(ij _ e).2;omega⟩);have gF:Below wt.heap.size wt (wt.alloc (.cells [Value.int .i32 10].toArray 21)):=af _ _;have mq:=aa (jX.out.below gF);have io:=aa (show Has (wt.alloc (.cells [Value.int .i32 10].toArray 21)) w.heap.size [.int .i64 (W:Int),.int .i64 (H:Int),.slice (some ⟨lb,off,none⟩) H lc,.int .i64 r,.int .i64 c,.bool pd,.bool au] 26/\Has (wt.alloc (.cells [Value.int .i32 10].toArray 21)) ga [.int .i64 (r0:Int),.int .i64 (c0:Int)] 66/\Has (wt.alloc (.cells [Value.int .i32 10].toArray 21)) gb [.int .i64 (r1:Int),.int .i64 (c1:Int)] 66/\Below w.heap.size w (wt.alloc (.cells [Value.int .i32 10].toArray 21))/\B<=(wt.alloc (.cells [Value.int .i32 10].toArray 21)).heap.size from ⟨ie.out.1.below gF ie.out.1.lt,ie.out.2.1.below gF ie.out.2.1.lt,ie.out.2.2.1.below gF ie.out.2.2.1.lt,ie.out.2.2.2.1.trans (gF.mono ie.out.2.2.2.1.size),Nat.le_trans ie.out.2.2.2.2 gF.size⟩);have iE:=aa ij;clear ij gF hq
            go_wp2_with (at_builtin;refine al (E:=aB .i32) (Z:=fun _=>True) rfl (.tmp 119) (.tmp 120) 57 rfl (.int .i32 0) 4 Tryd.underlying57 aK rfl (Nat.lt_succ_self 0) rfl rfl mq.out HX.out (by have:=lD.out;simp only [List.length_cons,List.length_nil];omega) (by have:=lD.out;simp only [List.length_cons,List.length_nil];omega) io.out.2.2.2.2 ?_)
            intro v2 w5 gU hb2 gZ _;have hno:∀ b,b<B->u7.ownBlock≠some b:=fun b hlt e=>by have:=(iE.out b e).1;omega
            rw [<-HE.out] at gU;have HF:=aa (And.intro gU (show Has w5 w.heap.size [.int .i64 (W:Int),.int .i64 (H:Int),.slice (some ⟨lb,off,none⟩) H lc,.int .i64 r,.int .i64 c,.bool pd,.bool au] 26/\Has w5 ga [.int .i64 (r0:Int),.int .i64 (c0:Int)] 66/\Has w5 gb [.int .i64 (r1:Int),.int .i64 (c1:Int)] 66/\Below w.heap.size w w5/\B<=w5.heap.size from ⟨gZ.has io.out.1 (hno _ gP.out.1),gZ.has io.out.2.1 (hno _ gP.out.2.1),gZ.has io.out.2.2.1 (hno _ gP.out.2.2),io.out.2.2.2.1.trans (hb2.mono (Nat.le_of_lt gP.out.1)),Nat.le_trans io.out.2.2.2.2 hb2.size⟩));clear gU hb2 gZ hno;go_wp2
            go_roundw
            case rel=>exact ⟨n+1,by omega,by omega,by go_num,HF.out⟩
            case measure=>simp [intOf] <;> omega
           |false =>
            have HE:=aa (show cP Ls W r0 c0 r1 c1 (n+1)=P0 from by
             rw [mD.out,if_neg (fun h=>by have hq:=kk.out;rw [decide_eq_true h.1,h.2] at hq;exact absurd hq (by decide)),List.append_nil])
            go_wp2
            go_roundw
            case rel=>exact ⟨n+1,by omega,by omega,by go_num,by rw [HE.out];exact jX.out,ie.out⟩
            case measure=>simp [intOf] <;> omega
  ·obtain rfl:n=r1+1:=by omega
   have d1:decide (((r1+1:Nat):Int)<=(r1:Int))=false:=ah (by omega);have HE:=aa (show cP Ls W r0 c0 r1 c1 (r1+1)=bs Ls W r0 c0 r1 c1 from if_neg (by omega));have HF:=aa (And.intro (HO.out.base (Nat.le_of_lt gP.out.1)) ic.out.2.2.2.1);go_wp2;go_ret;exact ⟨_,rfl,by rw [<-HE.out];exact HF.out.1,HF.out.2⟩
end Go.Proofs.YthdphijabffpiaaDoor
