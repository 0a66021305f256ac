import Derived.Test.YtechjomepdahiaaDoorZ0
import Derived.Test.YtechjomepdahiaaDoorWirH
set_option maxRecDepth 100000
set_option linter.unusedVariables false
set_option linter.unusedSimpArgs false
set_option maxHeartbeats 4000000
namespace Go.Proofs.YtechjomepdahiaaDoor
open Go.RowKit Go.ChangeShapes Go.WideShapes
theorem gR{P:Program}{ρ:Operand->Value}{o:Oper}{s x:Operand}{t tx:TypeId}{w w':World}{v u v':Value}(ho:o.op=.call { callee:=.builtin .append,args:=#[s,x],argTypes:=#[t,tx] })(hs:ρ s=v)(hx:ρ x=u)
  (hr:(Builtin.append_ #[t,tx] o.type #[v,u]).run P w=.ok v' w'):(execOp ρ o).run P w=.ok (.value v') w':=by
 unfold execOp
 simp [ho,resolve,invoke,builtin,hs,hx,hr,Result.andThen]
def bK(e:Nat):Nat->List Cl->List Int->Bool->List Cl × List Int × Bool
 | 0,A,xs,bad=>(A,xs,bad)
 | f+1,A,xs,bad=>if A.length<e/\bad=false then bK e f (A++(bF xs bad).1) (bF xs bad).2.1 (bF xs bad).2.2 else (A,xs,bad)
def eC(wd:Nat)(A:List Cl)(n:Nat):Bool:=decide (0<n / 2) && decide (n / 2<=wd - A.length)
def cb(wd:Nat):Nat->List Cl->List Int->Bool->List Cl × List Int × Bool
 |0,A,xs,bad=>(A,xs,bad)
 |f+1,A,xs,bad=>if A.length<wd/\bad=false then
   (if ((ai 3 0 1 xs bad).2.2 || !eC wd A (ai 3 0 1 xs bad).1)=true then ([],(ai 3 0 1 xs bad).2.1,true)
    else if (ai 3 0 1 xs bad).1 % 2=0 then cb wd f (A++List.replicate ((ai 3 0 1 xs bad).1 / 2) zc) (ai 3 0 1 xs bad).2.1 false
    else cb wd f (bK (A.length+(ai 3 0 1 xs bad).1 / 2) ((ai 3 0 1 xs bad).1 / 2) A (ai 3 0 1 xs bad).2.1 false).1
     (bK (A.length+(ai 3 0 1 xs bad).1 / 2) ((ai 3 0 1 xs bad).1 / 2) A (ai 3 0 1 xs bad).2.1 false).2.1
     ((bK (A.length+(ai 3 0 1 xs bad).1 / 2) ((ai 3 0 1 xs bad).1 / 2) A (ai 3 0 1 xs bad).2.1 false).2.2 || !decide ((bK (A.length+(ai 3 0 1 xs bad).1 / 2) ((ai 3 0 1 xs bad).1 / 2) A (ai 3 0 1 xs bad).2.1 false).1.length=A.length+(ai 3 0 1 xs bad).1 / 2)))
  else (A,xs,bad)
theorem gS(e f:Nat)(A:List Cl)(xs:List Int)(bad:Bool)(h:¬ (A.length<e/\bad=false)):bK e f A xs bad=(A,xs,bad):=by
 cases f with
 | zero=>rfl
 | succ f=>exact if_neg h
theorem gT(e f:Nat)(A:List Cl)(xs:List Int)(h:A.length<e):bK e (f+1) A xs false=bK e f (A++(bF xs false).1) (bF xs false).2.1 (bF xs false).2.2:=if_pos ⟨h,rfl⟩
theorem gU(wd f:Nat)(A:List Cl)(xs:List Int)(bad:Bool)(h:¬ (A.length<wd/\bad=false)):cb wd f A xs bad=(A,xs,bad):=by
 cases f with
 | zero=>rfl
 | succ f=>exact if_neg h
def iC:Value->Nat
 | .slice _ n _=>n
 | _=>0
theorem f7(s0 g wd:Nat)(xs:List Int)(bad:Bool)(w:World)(h:RdAt s0 w g xs bad)(hl:xs.length<=1000000)(hwd:wd<=1024):Calls Tryd.prog 92 #[.pointer (some ⟨g,0,none⟩),.int .i64 (wd:Int)] w (dO s0 g w (fun w' u=>OwnE cellE (fun b=>w.heap.size<=b) w' w.heap.size 85 u (cb wd wd [] xs bad).1) (cb wd wd [] xs bad).2.1 (cb wd wd [] xs bad).2.2):=by
 have mm:=h.lt;obtain ⟨R,hR⟩:=ab (cb wd wd [] xs bad);have HR:=aa hR;have HH:=aa h;rw [<-hR];clear hR h
 go_enter Tryd.func92,Tryd.ntmps92
 go_wp2
 go_loopw [5] (fun cv wr=>∃ (A:List Cl) (ys:List Int) (bd:Bool) (f n cap:Nat) (ao:Option Addr),cv=.slice ao n cap/\n<=wd+1/\Hid (n=A.length/\wd - A.length<=f/\cb wd f A ys bd=R/\ys.length<=1000000/\OwnE cellE (fun b=>w.heap.size<=b) wr w.heap.size 85 (.slice ao n cap) A/\RdAt s0 wr g ys bd/\Upd (fun b=>b=g) w wr)) (fun cv _=>wd+3 - iC cv)
 case atStart=>exact ⟨[],xs,bad,wd,0,0,none,rfl,Nat.zero_le _,aa ⟨rfl,by simp,HR.out.symm,hl,OwnE.nil _ _ _ _ _,HH.out,Upd.refl _ _⟩⟩
 case round =>
  clear HR;obtain ⟨A,ys,bd,f,n,cap,ao,rfl,hn,HS⟩:=hrel;obtain ⟨wo,pj⟩:=ab (wr);subst pj;obtain ⟨tt,nn⟩:=ab ((decide (n<wd) && !bd));have j9:=aa nn;clear nn
  go_upto_region 2 with (fail)
  go_cut [19] from 9 to 19 (fun tv wx=>tv=.bool tt/\wx=wo)
  case first =>
   obtain ⟨_,_,rv,hh,_⟩:=HS.out.2.2.2.2.2.1;have q1:=hh.cell 1 _ rfl
   by_cases hlt:n<wd
   · have d1:decide ((n:Int)<(wd:Int))=true:=ag (by omega);have d1n:decide (n<wd)=true:=ag (by omega);have d2:(n:Int)<(wd:Int):=by omega
     have e:tt = !bd:=by rw [j9.out,d1n,Bool.true_and]
     subst e;clear j9 hlt hh;go_wp2;go_meet
     case rel=>exact ⟨rfl,rfl⟩
   · have d1:decide ((n:Int)<(wd:Int))=false:=ah (by omega);have d1n:decide (n<wd)=false:=ah (by omega);have d2:¬ (n:Int)<(wd:Int):=by omega
     have e:tt=false:=by rw [j9.out,d1n,Bool.false_and]
     subst e;clear j9 hlt hh;go_wp2;go_meet
     case rel=>exact ⟨rfl,rfl⟩
  case rest =>
   obtain ⟨rfl,rfl⟩:=hcut;obtain ⟨wq,lR⟩:=ab (wc);subst lR
   cases tt with
   | false =>
     have HE:=aa (show R=(A,ys,bd) from by
       rw [<-HS.out.2.2.1];refine gU _ _ _ _ _ (fun hc=>?_);have:=j9.out;rw [<-HS.out.1] at hc;rw [decide_eq_true hc.1,hc.2] at this
       cases this)
     have HF:=aa (And.intro HS.out.2.2.2.2.1 (And.intro HS.out.2.2.2.2.2.1 HS.out.2.2.2.2.2.2));clear HS j9;go_wp2;go_ret;exact ⟨_,rfl,by rw [HE.out];exact HF.out.1,by rw [HE.out];exact HF.out.2.1,HF.out.2.2⟩
   | true =>
     have rR:n<wd/\bd=false:=by
       have:=j9.out.symm;rw [Bool.and_eq_true,decide_eq_true_eq] at this;exact ⟨this.1,by cases bd;rfl;exact absurd this.2 (by decide)⟩
     obtain ⟨pb,le⟩:=rR;subst le;obtain ⟨f2,hf2⟩ : ∃ f2,f=f2+1:=⟨f - 1,by have:=HS.out.1;have:=HS.out.2.1;omega⟩;subst hf2;have HN:=aa (aY s0 g ys false wq HS.out.2.2.2.2.2.1);have rD:=a9 3 0 1 (xs:=ys) false;have ky:=cA 3 0 1 ys false HS.out.2.2.2.2.2.1.2.1 (by decide);have HE:=aa (show R=if ((ai 3 0 1 ys false).2.2 || !eC wd A (ai 3 0 1 ys false).1)=true then ([],(ai 3 0 1 ys false).2.1,true)
    else if (ai 3 0 1 ys false).1 % 2=0 then cb wd f2 (A++List.replicate ((ai 3 0 1 ys false).1 / 2) zc) (ai 3 0 1 ys false).2.1 false
    else cb wd f2 (bK (A.length+(ai 3 0 1 ys false).1 / 2) ((ai 3 0 1 ys false).1 / 2) A (ai 3 0 1 ys false).2.1 false).1
      (bK (A.length+(ai 3 0 1 ys false).1 / 2) ((ai 3 0 1 ys false).1 / 2) A (ai 3 0 1 ys false).2.1 false).2.1
      ((bK (A.length+(ai 3 0 1 ys false).1 / 2) ((ai 3 0 1 ys false).1 / 2) A (ai 3 0 1 ys false).2.1 false).2.2 || !decide ((bK (A.length+(ai 3 0 1 ys false).1 / 2) ((ai 3 0 1 ys false).1 / 2) A (ai 3 0 1 ys false).2.1 false).1.length=A.length+(ai 3 0 1 ys false).1 / 2)) from by
       rw [<-HS.out.2.2.1];exact if_pos ⟨by rw [<-HS.out.1];exact pb,rfl⟩)
     obtain ⟨N,hN⟩:=ab ((ai 3 0 1 ys false).1);obtain ⟨x1,hx1⟩:=ab ((ai 3 0 1 ys false).2.1);obtain ⟨b1,hb1⟩:=ab ((ai 3 0 1 ys false).2.2);rw [<-hN,<-hx1,<-hb1] at HN HE;rw [<-hx1] at rD;rw [<-hN] at ky;have ky:N<2097152:=ky;obtain ⟨nh,rd⟩:=ab (N / 2);obtain ⟨nr,pt⟩:=ab (N % 2);obtain ⟨ok,kF⟩:=ab (eC wd A N);have lS:=aa (show ok=(decide (0<nh) && decide (nh<=wd - n)) from by rw [kF,rd,HS.out.1];rfl);rw [<-rd,<-pt,<-kF] at HE;have hx1l:x1.length<=1000000:=Nat.le_trans rD HS.out.2.2.2.1;have pE:(N:Int).tdiv 2=(nh:Int):=by rw [Int.tdiv_eq_ediv_of_nonneg (by omega)];omega
     have pI:(N:Int).tmod 2=(nr:Int):=by rw [Int.tmod_eq_emod_of_nonneg (by omega)];omega
     have hnr9:nr<=1:=by omega
     have hnh9:nh<=1048576:=by omega
     have HO:=aa HS.out.2.2.2.2.1;have HU:=aa HS.out.2.2.2.2.2.2;have nM:=aa HS.out.1;have HFU:=aa HS.out.2.1;clear hN hx1 hb1 rD ky rd pt kF HS j9
     go_wp2_with fail
     refine (HN.out).mono ?_;rintro e w2 ⟨u2,rfl,rfl,hr2,mq⟩;have ra:=aa hr2;have n8:=aa (HU.out.trans mq);have oQ:=aa (HO.out.upd mq (fun b hb e=>by
       rcases hb with hb | hb
       ·omega
       ·have:=(HO.out.lt b hb).1;omega))
     clear hr2 mq HN HO HU;have hwn:IntKind.i64.wrap ((wd:Int) - (n:Int))=((wd - n:Nat):Int):=by rw [IntKind.wrap_i64];omega
     have hwn2:((wd:Int) - (n:Int))=((wd - n:Nat):Int):=by omega
     go_upto_region 5 with (fail)
     go_cut [35] from 24 to 35 (fun tv wx=>Hid (RdAt s0 wx g x1 (b1 || !ok)/\Upd (fun b=>b=g) w2 wx))
     case first =>
       by_cases h0:nh=0
       ·have d3:decide ((0:Int)<(nh:Int))=false:=ah (by omega);have d3n:decide (0<nh)=false:=ah (by omega);have e:ok=false:=by rw [lS.out,d3n,Bool.false_and]
        subst e;have nD:=aa (bp s0 g x1 b1 false w2 ra.out);clear lS h0 HE
        go_wp2_with fail
        refine nD.out.mono ?_;rintro e w3 ⟨rfl,hr3,m5⟩;have HF:=aa (And.intro hr3 m5);clear hr3 m5;go_wp2;go_meet
        case rel=>exact HF
       ·have d3:decide ((0:Int)<(nh:Int))=true:=ag (by omega);have d3n:decide (0<nh)=true:=ag (by omega);have e:ok=decide (nh<=wd - n):=by rw [lS.out,d3n,Bool.true_and]
        have qM:=aa e;have nD:=aa (bp s0 g x1 b1 (decide (nh<=wd - n)) w2 ra.out);clear lS h0 HE e
        go_wp2_with fail
        refine nD.out.mono ?_;rintro e w3 ⟨rfl,hr3,m5⟩;have HF:=aa (show RdAt s0 w3 g x1 (b1 || !ok)/\Upd (fun b=>b=g) w2 w3 from ⟨by rw [qM.out];exact hr3,m5⟩);clear hr3 m5;go_wp2;go_meet
        case rel=>exact HF
     case rest =>
       obtain ⟨wt,hwt⟩:=ab (wc);subst hwt;obtain ⟨bd2,qb⟩:=ab ((b1 || !ok));have kG:=aa qb;rw [<-qb] at hcut HE;have oP:=aa hcut.out.1;have lU:=aa (n8.out.trans hcut.out.2);have oh:=aa (oQ.out.upd hcut.out.2 (fun b hb e=>by
        rcases hb with hb | hb
        ·omega
        ·have:=(oQ.out.lt b hb).1;omega))
       obtain ⟨_,_,rv,hh,_⟩:=hcut.out.1;have q1:=hh.cell 1 _ rfl;clear hcut hh qb ra n8 oQ hwn hwn2
       cases bd2 with
       |true =>
        rw [if_pos rfl] at HE;have HF:=aa (And.intro (OwnE.nil cellE (fun b=>w.heap.size<=b) wt w.heap.size 85) (And.intro oP.out lU.out));clear oP lU oh kG lS;go_wp2;go_ret;exact ⟨_,rfl,by rw [HE.out];exact HF.out.1,by rw [HE.out];exact HF.out.2.1,HF.out.2.2⟩
       |false =>
        rw [if_neg (by decide)] at HE;have kF:ok=true:=by
         have:=kG.out.symm;rw [Bool.or_eq_false_iff] at this
         cases ok with
         |true=>rfl
         |false=>exact absurd this.2 (by decide)
        have sg:0<nh/\nh<=wd - n:=by
         have:=lS.out.symm;rw [kF,Bool.and_eq_true,decide_eq_true_eq,decide_eq_true_eq] at this;exact this
        obtain ⟨oW,hnle⟩:=sg;clear kG lS kF
        by_cases hr0:nr=0
        ·rw [if_pos hr0] at HE;subst hr0;obtain ⟨v4,w4,hrn,kL,hb4,hk4,hd4⟩:=eq (Z:=fun b=>w.heap.size<=b) 67 3 67 .i64 Tryd.underlying67 Tryd.underlying3 oh.out nh (by omega) (by rw [<-nM.out];omega) lU.out.size;have HRN:=aa hrn;have nx:Upd (fun b=>(Value.slice ao n cap).ownBlock=some b) wt w4:=⟨hb4.os,hb4.tape,hb4.output,hk4.size,fun b hb hn=>hk4.block b hb hn⟩;have rQ:=aa (oP.out.upd nx (fun b hb=>by have:=(oh.out.lt b hb).1;omega));have kD:=aa hb4;have nP:=aa (show Upd (fun b=>b=g) w w4 from ⟨lU.out.os.symm ▸ hb4.os,lU.out.tape.symm ▸ hb4.tape,lU.out.output.symm ▸ hb4.output,Nat.le_trans lU.out.size hb4.size,fun b hb hn=>(hb4.block b (by omega)).trans (lU.out.block b hb hn)⟩);have mh:=kL.held (fun b hb _=>hb);obtain ⟨ao4,cap4,ev4⟩:=mh.len;obtain ⟨A4,oY⟩:=ab (A++List.replicate nh zc);have hl4:A4.length=n+nh:=by rw [oY,List.length_append,List.length_replicate,nM.out]
         rw [<-oY] at ev4 kL HE;rw [hl4] at ev4;subst ev4;have HF:=aa (show n+nh=A4.length/\wd - A4.length<=f2/\cb wd f2 A4 x1 false=R/\x1.length<=1000000/\OwnE cellE (fun b=>w.heap.size<=b) w4 w.heap.size 85 (.slice ao4 (n+nh) cap4) A4/\RdAt s0 w4 g x1 false/\Upd (fun b=>b=g) w w4 from ⟨hl4.symm,by rw [hl4];have:=HFU.out;have:=nM.out;omega,HE.out.symm,hx1l,kL,rQ.out,nP.out⟩);clear hrn kL hb4 hk4 hd4 nx mh oY hl4 oP lU oh
         go_upto_region 9 with (fail)
         clear q1
         go_wp2_with (at_builtin;refine cP rfl (gR rfl rfl rfl HRN.out) ?_)
         go_wp2
         go_roundw
         case rel=>exact ⟨A4,x1,false,f2,n+nh,cap4,ao4,by first | rfl | go_num,by omega,HF⟩
         case measure=>simp [iC] <;> omega
        ·have hr1:nr=1:=by omega
         subst hr1;rw [if_neg hr0] at HE;obtain ⟨I,hI⟩:=ab (bK (A.length+nh) nh A x1 false);rw [<-hI] at HE;have HI:=aa hI;obtain ⟨en,hen⟩:=ab (n+nh);have HWE:=aa (show ((n:Int)+(nh:Int))=(en:Int) from by omega);have henw:en<=wd:=by omega
         have HI2:=aa (show bK en nh A x1 false=I from by rw [hI,hen,nM.out]);have tA:=aa (show R=cb wd f2 I.1 I.2.1 (I.2.2 || !decide (I.1.length=en)) from by rw [HE.out,hen,nM.out]);have hrz:((1:Int) == 0)=false:=by decide
         clear hI hr0 HE HI;have sn:=aa hen;clear hen
         go_upto_region 11 with (fail)
         clear q1;rw [HWE.out];have hnen:n<en:=by rw [sn.out];omega
         go_loopw [5] (fun cv wr=>∃ (A':List Cl) (zs:List Int) (bd:Bool) (f3 n2 cap2:Nat) (ao2:Option Addr),cv=.slice ao2 n2 cap2/\n<=n2/\n2<=en+1/\(n2<en->bd=false\/n<n2)/\(n=n2->bd=false)/\Hid (n2=A'.length/\en - A'.length<=f3/\bK en f3 A' zs bd=I/\zs.length<=1000000/\OwnE cellE (fun b=>w.heap.size<=b) wr w.heap.size 85 (.slice ao2 n2 cap2) A'/\RdAt s0 wr g zs bd/\Upd (fun b=>b=g) w wr)) (fun cv _=>wd+3 - iC cv)
         case atStart=>exact ⟨A,x1,false,nh,n,cap,ao,by first | rfl | go_num,Nat.le_refl _,by omega,fun _=>.inl rfl,fun _=>rfl,aa ⟨nM.out,by have:=nM.out;have:=sn.out;omega,HI2.out,hx1l,oh.out,oP.out,lU.out⟩⟩
         case round =>
          clear oP lU oh HI2;obtain ⟨A',zs,bd3,f3,n2,cap2,ao2,rfl,qX,hn3,_,uw,HT⟩:=hrel;obtain ⟨wi,rZ⟩:=ab (wr);subst rZ;obtain ⟨tt,nn⟩:=ab ((decide (n2<en) && !bd3));have j9:=aa nn;clear nn
          go_upto_region 11 with (fail)
          go_cut [60] from 50 to 60 (fun tv wx=>tv=.bool tt/\wx=wi)
          case first =>
           obtain ⟨_,_,rv,hh,_⟩:=HT.out.2.2.2.2.2.1;have q1:=hh.cell 1 _ rfl
           by_cases hlt:n2<en
           ·have d1:decide ((n2:Int)<(en:Int))=true:=ag (by omega);have d1n:decide (n2<en)=true:=ag (by omega);have d2:(n2:Int)<(en:Int):=by omega
            have e:tt = !bd3:=by rw [j9.out,d1n,Bool.true_and]
            subst e;clear j9 hlt hh;go_wp2;go_meet
            case rel=>exact ⟨rfl,rfl⟩
           ·have d1:decide ((n2:Int)<(en:Int))=false:=ah (by omega);have d1n:decide (n2<en)=false:=ah (by omega);have d2:¬ (n2:Int)<(en:Int):=by omega
            have e:tt=false:=by rw [j9.out,d1n,Bool.false_and]
            subst e;clear j9 hlt hh;go_wp2;go_meet
            case rel=>exact ⟨rfl,rfl⟩
          case rest =>
           obtain ⟨rfl,rfl⟩:=hcut;obtain ⟨wj,sr⟩:=ab (wc);subst sr
           cases tt with
           |true =>
            have rR:n2<en/\bd3=false:=by
             have:=j9.out.symm;rw [Bool.and_eq_true,decide_eq_true_eq] at this;exact ⟨this.1,by cases bd3;rfl;exact absurd this.2 (by decide)⟩
            obtain ⟨hne,le⟩:=rR;subst le;obtain ⟨f4,hf4⟩ : ∃ f4,f3=f4+1:=⟨f3 - 1,by have:=HT.out.1;have:=HT.out.2.1;omega⟩;subst hf4;have nC:=aa (eV s0 g zs false wj HT.out.2.2.2.2.2.1 HT.out.2.2.2.1);have lj:=fp zs false;have rC:=aa (show bK en f4 (A'++(bF zs false).1) (bF zs false).2.1 (bF zs false).2.2=I from by
             rw [<-HT.out.2.2.1];exact (gT en f4 A' zs (by rw [<-HT.out.1];exact hne)).symm)
            obtain ⟨D,hD⟩:=ab ((bF zs false).1);obtain ⟨z2,hz2⟩:=ab ((bF zs false).2.1);obtain ⟨b4,hb4⟩:=ab ((bF zs false).2.2);rw [<-hD,<-hz2,<-hb4] at nC rC;rw [<-hD,<-hz2] at lj;have hz2l:z2.length<=1000000:=Nat.le_trans lj.2.2 HT.out.2.2.2.1;have HO:=aa HT.out.2.2.2.2.1;have HU:=aa HT.out.2.2.2.2.2.2;have mz:=aa HT.out.1;have HFV:=aa HT.out.2.1;have hcl1:=lj.1;have nG:=lj.2.1;clear hD hz2 hb4 lj HT j9 uw
            go_wp2_with fail
            refine nC.out.mono ?_;rintro e w4 ⟨u4,rfl,kL,hr4,nH⟩;have rQ:=aa hr4;have nP:=aa (HU.out.trans nH);have my:=aa (HO.out.upd nH (fun b hb e=>by
             rcases hb with hb | hb
             ·omega
             ·have:=(HO.out.lt b hb).1;omega))
            have tG:=aa ((kL.held (Z:=fun b=>wj.heap.size<=b) (fun b hb _=>hb)).zone (Y:=fun b=>w.heap.size<=b/\(Value.slice ao2 n2 cap2).ownBlock≠some b) (fun b _ hz=>⟨Nat.le_trans HU.out.size hz,fun e=>by have:=(HO.out.lt b e).2;omega⟩));have tl:=aa nP.out.size;obtain ⟨nd,mA⟩:=ab (D.length);have uB:=aa mA;rw [<-mA] at hcl1 nG;clear kL hr4 nH nC HO HU mA
            go_wp2_with (at_builtin;refine bH (E:=cellE) (Z:=fun b=>w.heap.size<=b) rfl (.tmp 61) (.tmp 63) 67 rfl (.agg #[.int .i64 0,.slice none 0 0]) 32 Tryd.underlying67 dC rfl (by decide) rfl rfl my.out tG.out (by rw [<-mz.out,<-uB.out];omega) (by rw [<-mz.out,<-uB.out];omega) tl.out ?_)
            intro v5 w5 kH kr rx hd5;have hu5:Upd (fun b=>(Value.slice ao2 n2 cap2).ownBlock=some b) w4 w5:=⟨kr.os,kr.tape,kr.output,rx.size,fun b hb hn=>rx.block b hb hn⟩;have rm:=aa (rQ.out.upd hu5 (fun b hb=>by have:=(my.out.lt b hb).1;omega));have th:=aa (show Upd (fun b=>b=g) w w5 from ⟨nP.out.os.symm ▸ kr.os,nP.out.tape.symm ▸ kr.tape,nP.out.output.symm ▸ kr.output,Nat.le_trans nP.out.size kr.size,fun b hb hn=>(kr.block b (by omega)).trans (nP.out.block b hb hn)⟩);have qf:=kH.held (fun b hb _=>hb);obtain ⟨ao5,cap5,ev5⟩:=qf.len;obtain ⟨A5,ut⟩:=ab (A'++D);have oA:A5.length=n2+nd:=by rw [ut,List.length_append,<-mz.out,<-uB.out]
            rw [<-ut] at ev5 kH rC;rw [oA] at ev5;subst ev5;have HF:=aa (show n2+nd=A5.length/\en - A5.length<=f4/\bK en f4 A5 z2 b4=I/\z2.length<=1000000/\OwnE cellE (fun b=>w.heap.size<=b) w5 w.heap.size 85 (.slice ao5 (n2+nd) cap5) A5/\RdAt s0 w5 g z2 b4/\Upd (fun b=>b=g) w w5 from ⟨oA.symm,by rw [oA];have:=HFV.out;have:=mz.out;omega,rC.out,hz2l,kH,rm.out,th.out⟩);clear kH kr rx hd5 hu5 qf ut oA;go_wp2
            go_roundw
            case rel=>exact ⟨A5,z2,b4,f4,n2+nd,cap5,ao5,by first | rfl | go_num,by omega,by omega,fun _=>.inr (by omega),fun e=>by omega,HF⟩
            case measure=>simp [iC] <;> omega
           |false =>
            have rC:=aa (show I=(A',zs,bd3) from by
             rw [<-HT.out.2.2.1];refine gS _ _ _ _ _ (fun hc=>?_);have:=j9.out;rw [<-HT.out.1] at hc;rw [decide_eq_true hc.1,hc.2] at this
             cases this)
            have hgr:n<n2:=by
             rcases Nat.lt_or_ge n n2 with h | h
             ·exact h
             ·exfalso;have e:n=n2:=by omega
              have hb:=uw e;have:=j9.out;rw [hb,decide_eq_true (by omega)] at this
              cases this
            have d6:((n2:Int) == (en:Int))=decide (n2=en):=by
             by_cases h:n2=en
             ·rw [h];simp
             ·rw [decide_eq_false h,beq_eq_false_iff_ne];omega
            have nD:=aa (bp s0 g zs bd3 (decide (n2=en)) wj HT.out.2.2.2.2.2.1);rw [<-d6] at nD;have HD6:=aa d6;have HO:=aa HT.out.2.2.2.2.1;have HU:=aa HT.out.2.2.2.2.2.2;have mz:=aa HT.out.1;have hzl:=HT.out.2.2.2.1;clear HT j9 d6 uw
            go_wp2_with fail
            refine nD.out.mono ?_;rintro e w6 ⟨rfl,rs,pF⟩;have HF:=aa (show n2=I.1.length/\wd - I.1.length<=f2/\cb wd f2 I.1 I.2.1 (I.2.2 || !decide (I.1.length=en))=R/\I.2.1.length<=1000000/\OwnE cellE (fun b=>w.heap.size<=b) w6 w.heap.size 85 (.slice ao2 n2 cap2) I.1/\RdAt s0 w6 g I.2.1 (I.2.2 || !decide (I.1.length=en))/\Upd (fun b=>b=g) w w6 from by
             rw [rC.out];simp only;refine ⟨mz.out,by rw [<-mz.out];have:=HFU.out;have:=nM.out;omega,?_,hzl,HO.out.upd pF (fun b hb e=>by
              rcases hb with hb | hb
              ·omega
              ·have:=(HO.out.lt b hb).1;omega),?_,HU.out.trans pF⟩
             ·have h:=tA.out;rw [rC.out] at h;exact h.symm
             ·rw [HD6.out,mz.out] at rs;exact rs)
            clear rs pF;go_wp2
            go_roundw
            case rel=>exact ⟨I.1,I.2.1,(I.2.2 || !decide (I.1.length=en)),f2,n2,cap2,ao2,rfl,by omega,HF⟩
            case measure=>simp [iC] <;> omega
end Go.Proofs.YtechjomepdahiaaDoor
