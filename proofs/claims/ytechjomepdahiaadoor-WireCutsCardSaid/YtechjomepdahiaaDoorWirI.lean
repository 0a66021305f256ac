import Derived.Test.YtechjomepdahiaaDoorZ0
import Derived.Test.YtechjomepdahiaaDoorWirH
set_option maxRecDepth 100000
set_option linter.unusedVariables false
set_option linter.unusedSimpArgs false
set_option maxHeartbeats 4000000
namespace Go.Proofs.YtechjomepdahiaaDoor
open Go.RowKit Go.ChangeShapes Go.WideShapes
theorem iT{P:Program}{ρ:Operand->Value}{o:Oper}{s x:Operand}{t tx:TypeId}{w w':World}{v u v':Value}(ho:o.op=.call { callee:=.builtin .append,args:=#[s,x],argTypes:=#[t,tx] })(hs:ρ s=v)(hx:ρ x=u)
  (hr:(Builtin.append_ #[t,tx] o.type #[v,u]).run P w=.ok v' w'):(execOp ρ o).run P w=.ok (.value v') w':=by
 unfold execOp
 simp [ho,resolve,invoke,builtin,hs,hx,hr,Result.andThen]
def bQ(e:Nat):Nat->List Cl->List Int->Bool->List Cl × List Int × Bool
 | 0,A,xs,bad=>(A,xs,bad)
 | f+1,A,xs,bad=>if A.length<e/\bad=false then bQ e f (A++(bM xs bad).1) (bM xs bad).2.1 (bM xs bad).2.2 else (A,xs,bad)
def ff(wd:Nat)(A:List Cl)(n:Nat):Bool:=decide (0<n / 2) && decide (n / 2<=wd - A.length)
def cn(wd:Nat):Nat->List Cl->List Int->Bool->List Cl × List Int × Bool
 |0,A,xs,bad=>(A,xs,bad)
 |f+1,A,xs,bad=>if A.length<wd/\bad=false then
   (if ((al 3 0 1 xs bad).2.2 || !ff wd A (al 3 0 1 xs bad).1)=true then ([],(al 3 0 1 xs bad).2.1,true)
    else if (al 3 0 1 xs bad).1 % 2=0 then cn wd f (A++List.replicate ((al 3 0 1 xs bad).1 / 2) zc) (al 3 0 1 xs bad).2.1 false
    else cn wd f (bQ (A.length+(al 3 0 1 xs bad).1 / 2) ((al 3 0 1 xs bad).1 / 2) A (al 3 0 1 xs bad).2.1 false).1
     (bQ (A.length+(al 3 0 1 xs bad).1 / 2) ((al 3 0 1 xs bad).1 / 2) A (al 3 0 1 xs bad).2.1 false).2.1
     ((bQ (A.length+(al 3 0 1 xs bad).1 / 2) ((al 3 0 1 xs bad).1 / 2) A (al 3 0 1 xs bad).2.1 false).2.2 || !decide ((bQ (A.length+(al 3 0 1 xs bad).1 / 2) ((al 3 0 1 xs bad).1 / 2) A (al 3 0 1 xs bad).2.1 false).1.length=A.length+(al 3 0 1 xs bad).1 / 2)))
  else (A,xs,bad)
theorem iU(e f:Nat)(A:List Cl)(xs:List Int)(bad:Bool)(h:¬ (A.length<e/\bad=false)):bQ e f A xs bad=(A,xs,bad):=by
 cases f with
 | zero=>rfl
 | succ f=>exact if_neg h
theorem iV(e f:Nat)(A:List Cl)(xs:List Int)(h:A.length<e):bQ e (f+1) A xs false=bQ e f (A++(bM xs false).1) (bM xs false).2.1 (bM xs false).2.2:=if_pos ⟨h,rfl⟩
theorem iW(wd f:Nat)(A:List Cl)(xs:List Int)(bad:Bool)(h:¬ (A.length<wd/\bad=false)):cn wd f A xs bad=(A,xs,bad):=by
 cases f with
 | zero=>rfl
 | succ f=>exact if_neg h
def jL:Value->Nat
 | .slice _ n _=>n
 | _=>0
theorem g9(s0 g wd:Nat)(xs:List Int)(bad:Bool)(w:World)(h:RdAt s0 w g xs bad)(hl:xs.length<=1000000)(hwd:wd<=1024):Calls Tryd.prog 92 #[.pointer (some ⟨g,0,none⟩),.int .i64 (wd:Int)] w (ek s0 g w (fun w' u=>OwnE cellE (fun b=>w.heap.size<=b) w' w.heap.size 85 u (cn wd wd [] xs bad).1) (cn wd wd [] xs bad).2.1 (cn wd wd [] xs bad).2.2):=by
 have n6:=h.lt;obtain ⟨R,hR⟩:=ab (cn wd wd [] xs bad);have HR:=aa hR;have HH:=aa h;rw [<-hR];clear hR h
 go_enter Tryd.func92,Tryd.ntmps92
 go_wp2
 go_loopw [5] (fun cv wr=>∃ (A:List Cl) (ys:List Int) (bd:Bool) (f n cap:Nat) (ao:Option Addr),cv=.slice ao n cap/\n<=wd+1/\Hid (n=A.length/\wd - A.length<=f/\cn wd f A ys bd=R/\ys.length<=1000000/\OwnE cellE (fun b=>w.heap.size<=b) wr w.heap.size 85 (.slice ao n cap) A/\RdAt s0 wr g ys bd/\Upd (fun b=>b=g) w wr)) (fun cv _=>wd+3 - jL cv)
 case atStart=>exact ⟨[],xs,bad,wd,0,0,none,rfl,Nat.zero_le _,aa ⟨rfl,by simp,HR.out.symm,hl,OwnE.nil _ _ _ _ _,HH.out,Upd.refl _ _⟩⟩
 case round =>
  clear HR;obtain ⟨A,ys,bd,f,n,cap,ao,rfl,hn,HS⟩:=hrel;obtain ⟨wo,qC⟩:=ab (wr);subst qC;obtain ⟨tt,o4⟩:=ab ((decide (n<wd) && !bd));have lM:=aa o4;clear o4
  go_upto_region 2 with (fail)
  go_cut [19] from 9 to 19 (fun tv wx=>tv=.bool tt/\wx=wo)
  case first =>
   obtain ⟨_,_,rv,hh,_⟩:=HS.out.2.2.2.2.2.1;have q1:=hh.cell 1 _ rfl
   by_cases hlt:n<wd
   · have d1:decide ((n:Int)<(wd:Int))=true:=ag (by omega);have d1n:decide (n<wd)=true:=ag (by omega);have d2:(n:Int)<(wd:Int):=by omega
     have e:tt = !bd:=by rw [lM.out,d1n,Bool.true_and]
     subst e;clear lM hlt hh;go_wp2;go_meet
     case rel=>exact ⟨rfl,rfl⟩
   · have d1:decide ((n:Int)<(wd:Int))=false:=ah (by omega);have d1n:decide (n<wd)=false:=ah (by omega);have d2:¬ (n:Int)<(wd:Int):=by omega
     have e:tt=false:=by rw [lM.out,d1n,Bool.false_and]
     subst e;clear lM hlt hh;go_wp2;go_meet
     case rel=>exact ⟨rfl,rfl⟩
  case rest =>
   obtain ⟨rfl,rfl⟩:=hcut;obtain ⟨wq,ns⟩:=ab (wc);subst ns
   cases tt with
   | false =>
     have HE:=aa (show R=(A,ys,bd) from by
       rw [<-HS.out.2.2.1];refine iW _ _ _ _ _ (fun hc=>?_);have:=lM.out;rw [<-HS.out.1] at hc;rw [decide_eq_true hc.1,hc.2] at this
       cases this)
     have HF:=aa (And.intro HS.out.2.2.2.2.1 (And.intro HS.out.2.2.2.2.2.1 HS.out.2.2.2.2.2.2));clear HS lM;go_wp2;go_ret;exact ⟨_,rfl,by rw [HE.out];exact HF.out.1,by rw [HE.out];exact HF.out.2.1,HF.out.2.2⟩
   | true =>
     have uh:n<wd/\bd=false:=by
       have:=lM.out.symm;rw [Bool.and_eq_true,decide_eq_true_eq] at this;exact ⟨this.1,by cases bd;rfl;exact absurd this.2 (by decide)⟩
     obtain ⟨qp,mI⟩:=uh;subst mI;obtain ⟨f2,hf2⟩ : ∃ f2,f=f2+1:=⟨f - 1,by have:=HS.out.1;have:=HS.out.2.1;omega⟩;subst hf2;have HN:=aa (bi s0 g ys false wq HS.out.2.2.2.2.2.1);have sO:=bn 3 0 1 (xs:=ys) false;have l9:=cJ 3 0 1 ys false HS.out.2.2.2.2.2.1.2.1 (by decide);have HE:=aa (show R=if ((al 3 0 1 ys false).2.2 || !ff wd A (al 3 0 1 ys false).1)=true then ([],(al 3 0 1 ys false).2.1,true)
    else if (al 3 0 1 ys false).1 % 2=0 then cn wd f2 (A++List.replicate ((al 3 0 1 ys false).1 / 2) zc) (al 3 0 1 ys false).2.1 false
    else cn wd f2 (bQ (A.length+(al 3 0 1 ys false).1 / 2) ((al 3 0 1 ys false).1 / 2) A (al 3 0 1 ys false).2.1 false).1
      (bQ (A.length+(al 3 0 1 ys false).1 / 2) ((al 3 0 1 ys false).1 / 2) A (al 3 0 1 ys false).2.1 false).2.1
      ((bQ (A.length+(al 3 0 1 ys false).1 / 2) ((al 3 0 1 ys false).1 / 2) A (al 3 0 1 ys false).2.1 false).2.2 || !decide ((bQ (A.length+(al 3 0 1 ys false).1 / 2) ((al 3 0 1 ys false).1 / 2) A (al 3 0 1 ys false).2.1 false).1.length=A.length+(al 3 0 1 ys false).1 / 2)) from by
       rw [<-HS.out.2.2.1];exact if_pos ⟨by rw [<-HS.out.1];exact qp,rfl⟩)
     obtain ⟨N,hN⟩:=ab ((al 3 0 1 ys false).1);obtain ⟨x1,hx1⟩:=ab ((al 3 0 1 ys false).2.1);obtain ⟨b1,hb1⟩:=ab ((al 3 0 1 ys false).2.2);rw [<-hN,<-hx1,<-hb1] at HN HE;rw [<-hx1] at sO;rw [<-hN] at l9;have l9:N<2097152:=l9;obtain ⟨nh,tE⟩:=ab (N / 2);obtain ⟨nr,p7⟩:=ab (N % 2);obtain ⟨ok,mi⟩:=ab (ff wd A N);have nu:=aa (show ok=(decide (0<nh) && decide (nh<=wd - n)) from by rw [mi,tE,HS.out.1];rfl);rw [<-tE,<-p7,<-mi] at HE;have hx1l:x1.length<=1000000:=Nat.le_trans sO HS.out.2.2.2.1;have p9:(N:Int).tdiv 2=(nh:Int):=by rw [Int.tdiv_eq_ediv_of_nonneg (by omega)];omega
     have qY:(N:Int).tmod 2=(nr:Int):=by rw [Int.tmod_eq_emod_of_nonneg (by omega)];omega
     have hnr9:nr<=1:=by omega
     have hnh9:nh<=1048576:=by omega
     have HO:=aa HS.out.2.2.2.2.1;have HU:=aa HS.out.2.2.2.2.2.2;have pk:=aa HS.out.1;have HFU:=aa HS.out.2.1;clear hN hx1 hb1 sO l9 tE p7 mi HS lM
     go_wp2_with fail
     refine (HN.out).mono ?_;rintro e w2 ⟨u2,rfl,rfl,hr2,nx⟩;have sS:=aa hr2;have pF:=aa (HU.out.trans nx);have qJ:=aa (HO.out.upd nx (fun b hb e=>by
       rcases hb with hb | hb
       ·omega
       ·have:=(HO.out.lt b hb).1;omega))
     clear hr2 nx HN HO HU;have hwn:IntKind.i64.wrap ((wd:Int) - (n:Int))=((wd - n:Nat):Int):=by rw [IntKind.wrap_i64];omega
     have hwn2:((wd:Int) - (n:Int))=((wd - n:Nat):Int):=by omega
     go_upto_region 5 with (fail)
     go_cut [35] from 24 to 35 (fun tv wx=>Hid (RdAt s0 wx g x1 (b1 || !ok)/\Upd (fun b=>b=g) w2 wx))
     case first =>
       by_cases h0:nh=0
       ·have d3:decide ((0:Int)<(nh:Int))=false:=ah (by omega);have d3n:decide (0<nh)=false:=ah (by omega);have e:ok=false:=by rw [nu.out,d3n,Bool.false_and]
        subst e;have pe:=aa (bC s0 g x1 b1 false w2 sS.out);clear nu h0 HE
        go_wp2_with fail
        refine pe.out.mono ?_;rintro e w3 ⟨rfl,hr3,oH⟩;have HF:=aa (And.intro hr3 oH);clear hr3 oH;go_wp2;go_meet
        case rel=>exact HF
       ·have d3:decide ((0:Int)<(nh:Int))=true:=ag (by omega);have d3n:decide (0<nh)=true:=ag (by omega);have e:ok=decide (nh<=wd - n):=by rw [nu.out,d3n,Bool.true_and]
        have rp:=aa e;have pe:=aa (bC s0 g x1 b1 (decide (nh<=wd - n)) w2 sS.out);clear nu h0 HE e
        go_wp2_with fail
        refine pe.out.mono ?_;rintro e w3 ⟨rfl,hr3,oH⟩;have HF:=aa (show RdAt s0 w3 g x1 (b1 || !ok)/\Upd (fun b=>b=g) w2 w3 from ⟨by rw [rp.out];exact hr3,oH⟩);clear hr3 oH;go_wp2;go_meet
        case rel=>exact HF
     case rest =>
       obtain ⟨wt,hwt⟩:=ab (wc);subst hwt;obtain ⟨bd2,rG⟩:=ab ((b1 || !ok));have mm:=aa rG;rw [<-rG] at hcut HE;have qF:=aa hcut.out.1;have nz:=aa (pF.out.trans hcut.out.2);have py:=aa (qJ.out.upd hcut.out.2 (fun b hb e=>by
        rcases hb with hb | hb
        ·omega
        ·have:=(qJ.out.lt b hb).1;omega))
       obtain ⟨_,_,rv,hh,_⟩:=hcut.out.1;have q1:=hh.cell 1 _ rfl;clear hcut hh rG sS pF qJ hwn hwn2
       cases bd2 with
       |true =>
        rw [if_pos rfl] at HE;have HF:=aa (And.intro (OwnE.nil cellE (fun b=>w.heap.size<=b) wt w.heap.size 85) (And.intro qF.out nz.out));clear qF nz py mm nu;go_wp2;go_ret;exact ⟨_,rfl,by rw [HE.out];exact HF.out.1,by rw [HE.out];exact HF.out.2.1,HF.out.2.2⟩
       |false =>
        rw [if_neg (by decide)] at HE;have mi:ok=true:=by
         have:=mm.out.symm;rw [Bool.or_eq_false_iff] at this
         cases ok with
         |true=>rfl
         |false=>exact absurd this.2 (by decide)
        have t6:0<nh/\nh<=wd - n:=by
         have:=nu.out.symm;rw [mi,Bool.and_eq_true,decide_eq_true_eq,decide_eq_true_eq] at this;exact this
        obtain ⟨qu,hnle⟩:=t6;clear mm nu mi
        by_cases hr0:nr=0
        ·rw [if_pos hr0] at HE;subst hr0;obtain ⟨v4,w4,hrn,me,hb4,hk4,hd4⟩:=eV (Z:=fun b=>w.heap.size<=b) 67 3 67 .i64 Tryd.underlying67 Tryd.underlying3 py.out nh (by omega) (by rw [<-pk.out];omega) nz.out.size;have HRN:=aa hrn;have nw:Upd (fun b=>(Value.slice ao n cap).ownBlock=some b) wt w4:=⟨hb4.os,hb4.tape,hb4.output,hk4.size,fun b hb hn=>hk4.block b hb hn⟩;have uw:=aa (qF.out.upd nw (fun b hb=>by have:=(py.out.lt b hb).1;omega));have lW:=aa hb4;have o7:=aa (show Upd (fun b=>b=g) w w4 from ⟨nz.out.os.symm ▸ hb4.os,nz.out.tape.symm ▸ hb4.tape,nz.out.output.symm ▸ hb4.output,Nat.le_trans nz.out.size hb4.size,fun b hb hn=>(hb4.block b (by omega)).trans (nz.out.block b hb hn)⟩);have qq:=me.held (fun b hb _=>hb);obtain ⟨ao4,cap4,ev4⟩:=qq.len;obtain ⟨A4,qM⟩:=ab (A++List.replicate nh zc);have hl4:A4.length=n+nh:=by rw [qM,List.length_append,List.length_replicate,pk.out]
         rw [<-qM] at ev4 me HE;rw [hl4] at ev4;subst ev4;have HF:=aa (show n+nh=A4.length/\wd - A4.length<=f2/\cn wd f2 A4 x1 false=R/\x1.length<=1000000/\OwnE cellE (fun b=>w.heap.size<=b) w4 w.heap.size 85 (.slice ao4 (n+nh) cap4) A4/\RdAt s0 w4 g x1 false/\Upd (fun b=>b=g) w w4 from ⟨hl4.symm,by rw [hl4];have:=HFU.out;have:=pk.out;omega,HE.out.symm,hx1l,me,uw.out,o7.out⟩);clear hrn me hb4 hk4 hd4 nw qq qM hl4 qF nz py
         go_upto_region 9 with (fail)
         clear q1
         go_wp2_with (at_builtin;refine cX rfl (iT rfl rfl rfl HRN.out) ?_)
         go_wp2
         go_roundw
         case rel=>exact ⟨A4,x1,false,f2,n+nh,cap4,ao4,by first | rfl | go_num,by omega,HF⟩
         case measure=>simp [jL] <;> omega
        ·have hr1:nr=1:=by omega
         subst hr1;rw [if_neg hr0] at HE;obtain ⟨I,hI⟩:=ab (bQ (A.length+nh) nh A x1 false);rw [<-hI] at HE;have HI:=aa hI;obtain ⟨en,hen⟩:=ab (n+nh);have HWE:=aa (show ((n:Int)+(nh:Int))=(en:Int) from by omega);have henw:en<=wd:=by omega
         have HI2:=aa (show bQ en nh A x1 false=I from by rw [hI,hen,pk.out]);have vd:=aa (show R=cn wd f2 I.1 I.2.1 (I.2.2 || !decide (I.1.length=en)) from by rw [HE.out,hen,pk.out]);have hrz:((1:Int) == 0)=false:=by decide
         clear hI hr0 HE HI;have um:=aa hen;clear hen
         go_upto_region 11 with (fail)
         clear q1;rw [HWE.out];have hnen:n<en:=by rw [um.out];omega
         go_loopw [5] (fun cv wr=>∃ (A':List Cl) (zs:List Int) (bd:Bool) (f3 n2 cap2:Nat) (ao2:Option Addr),cv=.slice ao2 n2 cap2/\n<=n2/\n2<=en+1/\(n2<en->bd=false\/n<n2)/\(n=n2->bd=false)/\Hid (n2=A'.length/\en - A'.length<=f3/\bQ en f3 A' zs bd=I/\zs.length<=1000000/\OwnE cellE (fun b=>w.heap.size<=b) wr w.heap.size 85 (.slice ao2 n2 cap2) A'/\RdAt s0 wr g zs bd/\Upd (fun b=>b=g) w wr)) (fun cv _=>wd+3 - jL cv)
         case atStart=>exact ⟨A,x1,false,nh,n,cap,ao,by first | rfl | go_num,Nat.le_refl _,by omega,fun _=>.inl rfl,fun _=>rfl,aa ⟨pk.out,by have:=pk.out;have:=um.out;omega,HI2.out,hx1l,py.out,qF.out,nz.out⟩⟩
         case round =>
          clear qF nz py HI2;obtain ⟨A',zs,bd3,f3,n2,cap2,ao2,rfl,qS,hn3,_,xj,HT⟩:=hrel;obtain ⟨wi,ul⟩:=ab (wr);subst ul;obtain ⟨tt,o4⟩:=ab ((decide (n2<en) && !bd3));have lM:=aa o4;clear o4
          go_upto_region 11 with (fail)
          go_cut [60] from 50 to 60 (fun tv wx=>tv=.bool tt/\wx=wi)
          case first =>
           obtain ⟨_,_,rv,hh,_⟩:=HT.out.2.2.2.2.2.1;have q1:=hh.cell 1 _ rfl
           by_cases hlt:n2<en
           ·have d1:decide ((n2:Int)<(en:Int))=true:=ag (by omega);have d1n:decide (n2<en)=true:=ag (by omega);have d2:(n2:Int)<(en:Int):=by omega
            have e:tt = !bd3:=by rw [lM.out,d1n,Bool.true_and]
            subst e;clear lM hlt hh;go_wp2;go_meet
            case rel=>exact ⟨rfl,rfl⟩
           ·have d1:decide ((n2:Int)<(en:Int))=false:=ah (by omega);have d1n:decide (n2<en)=false:=ah (by omega);have d2:¬ (n2:Int)<(en:Int):=by omega
            have e:tt=false:=by rw [lM.out,d1n,Bool.false_and]
            subst e;clear lM hlt hh;go_wp2;go_meet
            case rel=>exact ⟨rfl,rfl⟩
          case rest =>
           obtain ⟨rfl,rfl⟩:=hcut;obtain ⟨wj,tW⟩:=ab (wc);subst tW
           cases tt with
           |true =>
            have uh:n2<en/\bd3=false:=by
             have:=lM.out.symm;rw [Bool.and_eq_true,decide_eq_true_eq] at this;exact ⟨this.1,by cases bd3;rfl;exact absurd this.2 (by decide)⟩
            obtain ⟨hne,mI⟩:=uh;subst mI;obtain ⟨f4,hf4⟩ : ∃ f4,f3=f4+1:=⟨f3 - 1,by have:=HT.out.1;have:=HT.out.2.1;omega⟩;subst hf4;have pg:=aa (fI s0 g zs false wj HT.out.2.2.2.2.2.1 HT.out.2.2.2.1);have mL:=ge zs false;have sU:=aa (show bQ en f4 (A'++(bM zs false).1) (bM zs false).2.1 (bM zs false).2.2=I from by
             rw [<-HT.out.2.2.1];exact (iV en f4 A' zs (by rw [<-HT.out.1];exact hne)).symm)
            obtain ⟨D,hD⟩:=ab ((bM zs false).1);obtain ⟨z2,hz2⟩:=ab ((bM zs false).2.1);obtain ⟨b4,hb4⟩:=ab ((bM zs false).2.2);rw [<-hD,<-hz2,<-hb4] at pg sU;rw [<-hD,<-hz2] at mL;have hz2l:z2.length<=1000000:=Nat.le_trans mL.2.2 HT.out.2.2.2.1;have HO:=aa HT.out.2.2.2.2.1;have HU:=aa HT.out.2.2.2.2.2.2;have n8:=aa HT.out.1;have HFV:=aa HT.out.2.1;have hcl1:=mL.1;have pf:=mL.2.1;clear hD hz2 hb4 mL HT lM xj
            go_wp2_with fail
            refine pg.out.mono ?_;rintro e w4 ⟨u4,rfl,me,hr4,pm⟩;have uw:=aa hr4;have o7:=aa (HU.out.trans pm);have oo:=aa (HO.out.upd pm (fun b hb e=>by
             rcases hb with hb | hb
             ·omega
             ·have:=(HO.out.lt b hb).1;omega))
            have xr:=aa ((me.held (Z:=fun b=>wj.heap.size<=b) (fun b hb _=>hb)).zone (Y:=fun b=>w.heap.size<=b/\(Value.slice ao2 n2 cap2).ownBlock≠some b) (fun b _ hz=>⟨Nat.le_trans HU.out.size hz,fun e=>by have:=(HO.out.lt b e).2;omega⟩));have vj:=aa o7.out.size;obtain ⟨nd,ow⟩:=ab (D.length);have xi:=aa ow;rw [<-ow] at hcl1 pf;clear me hr4 pm pg HO HU ow
            go_wp2_with (at_builtin;refine bO (E:=cellE) (Z:=fun b=>w.heap.size<=b) rfl (.tmp 61) (.tmp 63) 67 rfl (.agg #[.int .i64 0,.slice none 0 0]) 32 Tryd.underlying67 dT rfl (by decide) rfl rfl oo.out xr.out (by rw [<-n8.out,<-xi.out];omega) (by rw [<-n8.out,<-xi.out];omega) vj.out ?_)
            intro v5 w5 mE l6 tk hd5;have hu5:Upd (fun b=>(Value.slice ao2 n2 cap2).ownBlock=some b) w4 w5:=⟨l6.os,l6.tape,l6.output,tk.size,fun b hb hn=>tk.block b hb hn⟩;have tA:=aa (uw.out.upd hu5 (fun b hb=>by have:=(oo.out.lt b hb).1;omega));have rL:=aa (show Upd (fun b=>b=g) w w5 from ⟨o7.out.os.symm ▸ l6.os,o7.out.tape.symm ▸ l6.tape,o7.out.output.symm ▸ l6.output,Nat.le_trans o7.out.size l6.size,fun b hb hn=>(l6.block b (by omega)).trans (o7.out.block b hb hn)⟩);have sy:=mE.held (fun b hb _=>hb);obtain ⟨ao5,cap5,ev5⟩:=sy.len;obtain ⟨A5,xA⟩:=ab (A'++D);have pP:A5.length=n2+nd:=by rw [xA,List.length_append,<-n8.out,<-xi.out]
            rw [<-xA] at ev5 mE sU;rw [pP] at ev5;subst ev5;have HF:=aa (show n2+nd=A5.length/\en - A5.length<=f4/\bQ en f4 A5 z2 b4=I/\z2.length<=1000000/\OwnE cellE (fun b=>w.heap.size<=b) w5 w.heap.size 85 (.slice ao5 (n2+nd) cap5) A5/\RdAt s0 w5 g z2 b4/\Upd (fun b=>b=g) w w5 from ⟨pP.symm,by rw [pP];have:=HFV.out;have:=n8.out;omega,sU.out,hz2l,mE,tA.out,rL.out⟩);clear mE l6 tk hd5 hu5 sy xA pP;go_wp2
            go_roundw
            case rel=>exact ⟨A5,z2,b4,f4,n2+nd,cap5,ao5,by first | rfl | go_num,by omega,by omega,fun _=>.inr (by omega),fun e=>by omega,HF⟩
            case measure=>simp [jL] <;> omega
           |false =>
            have sU:=aa (show I=(A',zs,bd3) from by
             rw [<-HT.out.2.2.1];refine iU _ _ _ _ _ (fun hc=>?_);have:=lM.out;rw [<-HT.out.1] at hc;rw [decide_eq_true hc.1,hc.2] at this
             cases this)
            have hgr:n<n2:=by
             rcases Nat.lt_or_ge n n2 with h | h
             ·exact h
             ·exfalso;have e:n=n2:=by omega
              have hb:=xj e;have:=lM.out;rw [hb,decide_eq_true (by omega)] at this
              cases this
            have d6:((n2:Int) == (en:Int))=decide (n2=en):=by
             by_cases h:n2=en
             ·rw [h];simp
             ·rw [decide_eq_false h,beq_eq_false_iff_ne];omega
            have pe:=aa (bC s0 g zs bd3 (decide (n2=en)) wj HT.out.2.2.2.2.2.1);rw [<-d6] at pe;have HD6:=aa d6;have HO:=aa HT.out.2.2.2.2.1;have HU:=aa HT.out.2.2.2.2.2.2;have n8:=aa HT.out.1;have hzl:=HT.out.2.2.2.1;clear HT lM d6 xj
            go_wp2_with fail
            refine pe.out.mono ?_;rintro e w6 ⟨rfl,sW,rn⟩;have HF:=aa (show n2=I.1.length/\wd - I.1.length<=f2/\cn wd f2 I.1 I.2.1 (I.2.2 || !decide (I.1.length=en))=R/\I.2.1.length<=1000000/\OwnE cellE (fun b=>w.heap.size<=b) w6 w.heap.size 85 (.slice ao2 n2 cap2) I.1/\RdAt s0 w6 g I.2.1 (I.2.2 || !decide (I.1.length=en))/\Upd (fun b=>b=g) w w6 from by
             rw [sU.out];simp only;refine ⟨n8.out,by rw [<-n8.out];have:=HFU.out;have:=pk.out;omega,?_,hzl,HO.out.upd rn (fun b hb e=>by
              rcases hb with hb | hb
              ·omega
              ·have:=(HO.out.lt b hb).1;omega),?_,HU.out.trans rn⟩
             ·have h:=vd.out;rw [sU.out] at h;exact h.symm
             ·rw [HD6.out,n8.out] at sW;exact sW)
            clear sW rn;go_wp2
            go_roundw
            case rel=>exact ⟨I.1,I.2.1,(I.2.2 || !decide (I.1.length=en)),f2,n2,cap2,ao2,rfl,by omega,HF⟩
            case measure=>simp [jL] <;> omega
end Go.Proofs.YtechjomepdahiaaDoor
