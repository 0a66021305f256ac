import Derived.Test.YtechjomepdahiaaDoorZ0
import Derived.Test.YtechjomepdahiaaDoorWirH
set_option maxRecDepth 100000
set_option linter.unusedVariables false
set_option linter.unusedSimpArgs false
set_option maxHeartbeats 4000000
namespace Go.Proofs.YtechjomepdahiaaDoor
open Go.RowKit Go.ChangeShapes Go.WideShapes
theorem jr{P:Program}{ρ:Operand->Value}{o:Oper}{s x:Operand}{t tx:TypeId}{w w':World}{v u v':Value}(ho:o.op=.call { callee:=.builtin .append,args:=#[s,x],argTypes:=#[t,tx] })(hs:ρ s=v)(hx:ρ x=u)
  (hr:(Builtin.append_ #[t,tx] o.type #[v,u]).run P w=.ok v' w'):(execOp ρ o).run P w=.ok (.value v') w':=by
 unfold execOp
 simp [ho,resolve,invoke,builtin,hs,hx,hr,Result.andThen]
def bP(e:Nat):Nat->List Cl->List Int->Bool->List Cl × List Int × Bool
 | 0,A,xs,bad=>(A,xs,bad)
 | f+1,A,xs,bad=>if A.length<e/\bad=false then bP e f (A++(bE xs bad).1) (bE xs bad).2.1 (bE xs bad).2.2 else (A,xs,bad)
def ep(wd:Nat)(A:List Cl)(n:Nat):Bool:=decide (0<n / 2) && decide (n / 2<=wd - A.length)
def cj(wd:Nat):Nat->List Cl->List Int->Bool->List Cl × List Int × Bool
 |0,A,xs,bad=>(A,xs,bad)
 |f+1,A,xs,bad=>if A.length<wd/\bad=false then
   (if ((ak 3 0 1 xs bad).2.2 || !ep wd A (ak 3 0 1 xs bad).1)=true then ([],(ak 3 0 1 xs bad).2.1,true)
    else if (ak 3 0 1 xs bad).1 % 2=0 then cj wd f (A++List.replicate ((ak 3 0 1 xs bad).1 / 2) zc) (ak 3 0 1 xs bad).2.1 false
    else cj wd f (bP (A.length+(ak 3 0 1 xs bad).1 / 2) ((ak 3 0 1 xs bad).1 / 2) A (ak 3 0 1 xs bad).2.1 false).1
     (bP (A.length+(ak 3 0 1 xs bad).1 / 2) ((ak 3 0 1 xs bad).1 / 2) A (ak 3 0 1 xs bad).2.1 false).2.1
     ((bP (A.length+(ak 3 0 1 xs bad).1 / 2) ((ak 3 0 1 xs bad).1 / 2) A (ak 3 0 1 xs bad).2.1 false).2.2 || !decide ((bP (A.length+(ak 3 0 1 xs bad).1 / 2) ((ak 3 0 1 xs bad).1 / 2) A (ak 3 0 1 xs bad).2.1 false).1.length=A.length+(ak 3 0 1 xs bad).1 / 2)))
  else (A,xs,bad)
theorem fu(e f:Nat)(A:List Cl)(xs:List Int)(bad:Bool)(h:¬ (A.length<e/\bad=false)):bP e f A xs bad=(A,xs,bad):=by
 cases f with
 | zero=>rfl
 | succ f=>exact if_neg h
theorem fw(e f:Nat)(A:List Cl)(xs:List Int)(h:A.length<e):bP e (f+1) A xs false=bP e f (A++(bE xs false).1) (bE xs false).2.1 (bE xs false).2.2:=if_pos ⟨h,rfl⟩
theorem fx(wd f:Nat)(A:List Cl)(xs:List Int)(bad:Bool)(h:¬ (A.length<wd/\bad=false)):cj wd f A xs bad=(A,xs,bad):=by
 cases f with
 | zero=>rfl
 | succ f=>exact if_neg h
def kc:Value->Nat
 | .slice _ n _=>n
 | _=>0
theorem iy(s0 g wd:Nat)(xs:List Int)(bad:Bool)(w:World)(h:RdAt s0 w g xs bad)(hl:xs.length<=1000000)(hwd:wd<=1024):Calls Tryd.prog 92 #[.pointer (some ⟨g,0,none⟩),.int .i64 (wd:Int)] w (eA s0 g w (fun w' u=>OwnE cellE (fun b=>w.heap.size<=b) w' w.heap.size 85 u (cj wd wd [] xs bad).1) (cj wd wd [] xs bad).2.1 (cj wd wd [] xs bad).2.2):=by
 have oP:=h.lt;obtain ⟨R,hR⟩:=ab (cj wd wd [] xs bad);have HR:=aa hR;have HH:=aa h;rw [<-hR];clear hR h
 go_enter Tryd.func92,Tryd.ntmps92
 go_wp2
 go_loopw [5] (fun cv wr=>∃ (A:List Cl) (ys:List Int) (bd:Bool) (f n cap:Nat) (ao:Option Addr),cv=.slice ao n cap/\n<=wd+1/\Hid (n=A.length/\wd - A.length<=f/\cj wd f A ys bd=R/\ys.length<=1000000/\OwnE cellE (fun b=>w.heap.size<=b) wr w.heap.size 85 (.slice ao n cap) A/\RdAt s0 wr g ys bd/\Upd (fun b=>b=g) w wr)) (fun cv _=>wd+3 - kc cv)
 case atStart=>exact ⟨[],xs,bad,wd,0,0,none,rfl,Nat.zero_le _,aa ⟨rfl,by simp,HR.out.symm,hl,OwnE.nil _ _ _ _ _,HH.out,Upd.refl _ _⟩⟩
 case round =>
  clear HR;obtain ⟨A,ys,bd,f,n,cap,ao,rfl,hn,HS⟩:=hrel;obtain ⟨wo,ro⟩:=ab (wr);subst ro;obtain ⟨tt,pC⟩:=ab ((decide (n<wd) && !bd));have mi:=aa pC;clear pC
  go_upto_region 2 with (fail)
  go_cut [19] from 9 to 19 (fun tv wx=>tv=.bool tt/\wx=wo)
  case first =>
   obtain ⟨_,_,rv,hh,_⟩:=HS.out.2.2.2.2.2.1;have q1:=hh.cell 1 _ rfl
   by_cases hlt:n<wd
   · have d1:decide ((n:Int)<(wd:Int))=true:=ag (by omega);have d1n:decide (n<wd)=true:=ag (by omega);have d2:(n:Int)<(wd:Int):=by omega
     have e:tt = !bd:=by rw [mi.out,d1n,Bool.true_and]
     subst e;clear mi hlt hh;go_wp2;go_meet
     case rel=>exact ⟨rfl,rfl⟩
   · have d1:decide ((n:Int)<(wd:Int))=false:=ah (by omega);have d1n:decide (n<wd)=false:=ah (by omega);have d2:¬ (n:Int)<(wd:Int):=by omega
     have e:tt=false:=by rw [mi.out,d1n,Bool.false_and]
     subst e;clear mi hlt hh;go_wp2;go_meet
     case rel=>exact ⟨rfl,rfl⟩
  case rest =>
   obtain ⟨rfl,rfl⟩:=hcut;obtain ⟨wq,oe⟩:=ab (wc);subst oe
   cases tt with
   | false =>
     have HE:=aa (show R=(A,ys,bd) from by
       rw [<-HS.out.2.2.1];refine fx _ _ _ _ _ (fun hc=>?_);have:=mi.out;rw [<-HS.out.1] at hc;rw [decide_eq_true hc.1,hc.2] at this
       cases this)
     have HF:=aa (And.intro HS.out.2.2.2.2.1 (And.intro HS.out.2.2.2.2.2.1 HS.out.2.2.2.2.2.2));clear HS mi;go_wp2;go_ret;exact ⟨_,rfl,by rw [HE.out];exact HF.out.1,by rw [HE.out];exact HF.out.2.1,HF.out.2.2⟩
   | true =>
     have uM:n<wd/\bd=false:=by
       have:=mi.out.symm;rw [Bool.and_eq_true,decide_eq_true_eq] at this;exact ⟨this.1,by cases bd;rfl;exact absurd this.2 (by decide)⟩
     obtain ⟨rk,nx⟩:=uM;subst nx;obtain ⟨f2,hf2⟩ : ∃ f2,f=f2+1:=⟨f - 1,by have:=HS.out.1;have:=HS.out.2.1;omega⟩;subst hf2;have HN:=aa (bm s0 g ys false wq HS.out.2.2.2.2.2.1);have ul:=bp 3 0 1 (xs:=ys) false;have mA:=cN 3 0 1 ys false HS.out.2.2.2.2.2.1.2.1 (by decide);have HE:=aa (show R=if ((ak 3 0 1 ys false).2.2 || !ep wd A (ak 3 0 1 ys false).1)=true then ([],(ak 3 0 1 ys false).2.1,true)
    else if (ak 3 0 1 ys false).1 % 2=0 then cj wd f2 (A++List.replicate ((ak 3 0 1 ys false).1 / 2) zc) (ak 3 0 1 ys false).2.1 false
    else cj wd f2 (bP (A.length+(ak 3 0 1 ys false).1 / 2) ((ak 3 0 1 ys false).1 / 2) A (ak 3 0 1 ys false).2.1 false).1
      (bP (A.length+(ak 3 0 1 ys false).1 / 2) ((ak 3 0 1 ys false).1 / 2) A (ak 3 0 1 ys false).2.1 false).2.1
      ((bP (A.length+(ak 3 0 1 ys false).1 / 2) ((ak 3 0 1 ys false).1 / 2) A (ak 3 0 1 ys false).2.1 false).2.2 || !decide ((bP (A.length+(ak 3 0 1 ys false).1 / 2) ((ak 3 0 1 ys false).1 / 2) A (ak 3 0 1 ys false).2.1 false).1.length=A.length+(ak 3 0 1 ys false).1 / 2)) from by
       rw [<-HS.out.2.2.1];exact if_pos ⟨by rw [<-HS.out.1];exact rk,rfl⟩)
     obtain ⟨N,hN⟩:=ab ((ak 3 0 1 ys false).1);obtain ⟨x1,hx1⟩:=ab ((ak 3 0 1 ys false).2.1);obtain ⟨b1,hb1⟩:=ab ((ak 3 0 1 ys false).2.2);rw [<-hN,<-hx1,<-hb1] at HN HE;rw [<-hx1] at ul;rw [<-hN] at mA;have mA:N<2097152:=mA;obtain ⟨nh,tS⟩:=ab (N / 2);obtain ⟨nr,qV⟩:=ab (N % 2);obtain ⟨ok,mH⟩:=ab (ep wd A N);have od:=aa (show ok=(decide (0<nh) && decide (nh<=wd - n)) from by rw [mH,tS,HS.out.1];rfl);rw [<-tS,<-qV,<-mH] at HE;have hx1l:x1.length<=1000000:=Nat.le_trans ul HS.out.2.2.2.1;have qF:(N:Int).tdiv 2=(nh:Int):=by rw [Int.tdiv_eq_ediv_of_nonneg (by omega)];omega
     have rX:(N:Int).tmod 2=(nr:Int):=by rw [Int.tmod_eq_emod_of_nonneg (by omega)];omega
     have hnr9:nr<=1:=by omega
     have hnh9:nh<=1048576:=by omega
     have HO:=aa HS.out.2.2.2.2.1;have HU:=aa HS.out.2.2.2.2.2.2;have p8:=aa HS.out.1;have HFU:=aa HS.out.2.1;clear hN hx1 hb1 ul mA tS qV mH HS mi
     go_wp2_with fail
     refine (HN.out).mono ?_;rintro e w2 ⟨u2,rfl,rfl,hr2,ou⟩;have t7:=aa hr2;have qB:=aa (HU.out.trans ou);have rC:=aa (HO.out.upd ou (fun b hb e=>by
       rcases hb with hb | hb
       ·omega
       ·have:=(HO.out.lt b hb).1;omega))
     clear hr2 ou HN HO HU;have hwn:IntKind.i64.wrap ((wd:Int) - (n:Int))=((wd - n:Nat):Int):=by rw [IntKind.wrap_i64];omega
     have hwn2:((wd:Int) - (n:Int))=((wd - n:Nat):Int):=by omega
     go_upto_region 5 with (fail)
     go_cut [35] from 24 to 35 (fun tv wx=>Hid (RdAt s0 wx g x1 (b1 || !ok)/\Upd (fun b=>b=g) w2 wx))
     case first =>
       by_cases h0:nh=0
       ·have d3:decide ((0:Int)<(nh:Int))=false:=ah (by omega);have d3n:decide (0<nh)=false:=ah (by omega);have e:ok=false:=by rw [od.out,d3n,Bool.false_and]
        subst e;have pU:=aa (bF s0 g x1 b1 false w2 t7.out);clear od h0 HE
        go_wp2_with fail
        refine pU.out.mono ?_;rintro e w3 ⟨rfl,hr3,o6⟩;have HF:=aa (And.intro hr3 o6);clear hr3 o6;go_wp2;go_meet
        case rel=>exact HF
       ·have d3:decide ((0:Int)<(nh:Int))=true:=ag (by omega);have d3n:decide (0<nh)=true:=ag (by omega);have e:ok=decide (nh<=wd - n):=by rw [od.out,d3n,Bool.true_and]
        have sR:=aa e;have pU:=aa (bF s0 g x1 b1 (decide (nh<=wd - n)) w2 t7.out);clear od h0 HE e
        go_wp2_with fail
        refine pU.out.mono ?_;rintro e w3 ⟨rfl,hr3,o6⟩;have HF:=aa (show RdAt s0 w3 g x1 (b1 || !ok)/\Upd (fun b=>b=g) w2 w3 from ⟨by rw [sR.out];exact hr3,o6⟩);clear hr3 o6;go_wp2;go_meet
        case rel=>exact HF
     case rest =>
       obtain ⟨wt,hwt⟩:=ab (wc);subst hwt;obtain ⟨bd2,tg⟩:=ab ((b1 || !ok));have mT:=aa tg;rw [<-tg] at hcut HE;have rp:=aa hcut.out.1;have nn:=aa (qB.out.trans hcut.out.2);have qm:=aa (rC.out.upd hcut.out.2 (fun b hb e=>by
        rcases hb with hb | hb
        ·omega
        ·have:=(rC.out.lt b hb).1;omega))
       obtain ⟨_,_,rv,hh,_⟩:=hcut.out.1;have q1:=hh.cell 1 _ rfl;clear hcut hh tg t7 qB rC hwn hwn2
       cases bd2 with
       |true =>
        rw [if_pos rfl] at HE;have HF:=aa (And.intro (OwnE.nil cellE (fun b=>w.heap.size<=b) wt w.heap.size 85) (And.intro rp.out nn.out));clear rp nn qm mT od;go_wp2;go_ret;exact ⟨_,rfl,by rw [HE.out];exact HF.out.1,by rw [HE.out];exact HF.out.2.1,HF.out.2.2⟩
       |false =>
        rw [if_neg (by decide)] at HE;have mH:ok=true:=by
         have:=mT.out.symm;rw [Bool.or_eq_false_iff] at this
         cases ok with
         |true=>rfl
         |false=>exact absurd this.2 (by decide)
        have vt:0<nh/\nh<=wd - n:=by
         have:=od.out.symm;rw [mH,Bool.and_eq_true,decide_eq_true_eq,decide_eq_true_eq] at this;exact this
        obtain ⟨qZ,hnle⟩:=vt;clear mT od mH
        by_cases hr0:nr=0
        ·rw [if_pos hr0] at HE;subst hr0;obtain ⟨v4,w4,hrn,mY,hb4,hk4,hd4⟩:=fe (Z:=fun b=>w.heap.size<=b) 67 3 67 .i64 Tryd.underlying67 Tryd.underlying3 qm.out nh (by omega) (by rw [<-p8.out];omega) nn.out.size;have HRN:=aa hrn;have pR:Upd (fun b=>(Value.slice ao n cap).ownBlock=some b) wt w4:=⟨hb4.os,hb4.tape,hb4.output,hk4.size,fun b hb hn=>hk4.block b hb hn⟩;have vp:=aa (rp.out.upd pR (fun b hb=>by have:=(qm.out.lt b hb).1;omega));have mu:=aa hb4;have qn:=aa (show Upd (fun b=>b=g) w w4 from ⟨nn.out.os.symm ▸ hb4.os,nn.out.tape.symm ▸ hb4.tape,nn.out.output.symm ▸ hb4.output,Nat.le_trans nn.out.size hb4.size,fun b hb hn=>(hb4.block b (by omega)).trans (nn.out.block b hb hn)⟩);have rh:=mY.held (fun b hb _=>hb);obtain ⟨ao4,cap4,ev4⟩:=rh.len;obtain ⟨A4,rB⟩:=ab (A++List.replicate nh zc);have hl4:A4.length=n+nh:=by rw [rB,List.length_append,List.length_replicate,p8.out]
         rw [<-rB] at ev4 mY HE;rw [hl4] at ev4;subst ev4;have HF:=aa (show n+nh=A4.length/\wd - A4.length<=f2/\cj wd f2 A4 x1 false=R/\x1.length<=1000000/\OwnE cellE (fun b=>w.heap.size<=b) w4 w.heap.size 85 (.slice ao4 (n+nh) cap4) A4/\RdAt s0 w4 g x1 false/\Upd (fun b=>b=g) w w4 from ⟨hl4.symm,by rw [hl4];have:=HFU.out;have:=p8.out;omega,HE.out.symm,hx1l,mY,vp.out,qn.out⟩);clear hrn mY hb4 hk4 hd4 pR rh rB hl4 rp nn qm
         go_upto_region 9 with (fail)
         clear q1
         go_wp2_with (at_builtin;refine da rfl (jr rfl rfl rfl HRN.out) ?_)
         go_wp2
         go_roundw
         case rel=>exact ⟨A4,x1,false,f2,n+nh,cap4,ao4,by first | rfl | go_num,by omega,HF⟩
         case measure=>simp [kc] <;> omega
        ·have hr1:nr=1:=by omega
         subst hr1;rw [if_neg hr0] at HE;obtain ⟨I,hI⟩:=ab (bP (A.length+nh) nh A x1 false);rw [<-hI] at HE;have HI:=aa hI;obtain ⟨en,hen⟩:=ab (n+nh);have HWE:=aa (show ((n:Int)+(nh:Int))=(en:Int) from by omega);have henw:en<=wd:=by omega
         have HI2:=aa (show bP en nh A x1 false=I from by rw [hI,hen,p8.out]);have wn:=aa (show R=cj wd f2 I.1 I.2.1 (I.2.2 || !decide (I.1.length=en)) from by rw [HE.out,hen,p8.out]);have hrz:((1:Int) == 0)=false:=by decide
         clear hI hr0 HE HI;have uF:=aa hen;clear hen
         go_upto_region 11 with (fail)
         clear q1;rw [HWE.out];have hnen:n<en:=by rw [uF.out];omega
         go_loopw [5] (fun cv wr=>∃ (A':List Cl) (zs:List Int) (bd:Bool) (f3 n2 cap2:Nat) (ao2:Option Addr),cv=.slice ao2 n2 cap2/\n<=n2/\n2<=en+1/\(n2<en->bd=false\/n<n2)/\(n=n2->bd=false)/\Hid (n2=A'.length/\en - A'.length<=f3/\bP en f3 A' zs bd=I/\zs.length<=1000000/\OwnE cellE (fun b=>w.heap.size<=b) wr w.heap.size 85 (.slice ao2 n2 cap2) A'/\RdAt s0 wr g zs bd/\Upd (fun b=>b=g) w wr)) (fun cv _=>wd+3 - kc cv)
         case atStart=>exact ⟨A,x1,false,nh,n,cap,ao,by first | rfl | go_num,Nat.le_refl _,by omega,fun _=>.inl rfl,fun _=>rfl,aa ⟨p8.out,by have:=p8.out;have:=uF.out;omega,HI2.out,hx1l,qm.out,rp.out,nn.out⟩⟩
         case round =>
          clear rp nn qm HI2;obtain ⟨A',zs,bd3,f3,n2,cap2,ao2,rfl,r8,hn3,_,wU,HT⟩:=hrel;obtain ⟨wi,vA⟩:=ab (wr);subst vA;obtain ⟨tt,pC⟩:=ab ((decide (n2<en) && !bd3));have mi:=aa pC;clear pC
          go_upto_region 11 with (fail)
          go_cut [60] from 50 to 60 (fun tv wx=>tv=.bool tt/\wx=wi)
          case first =>
           obtain ⟨_,_,rv,hh,_⟩:=HT.out.2.2.2.2.2.1;have q1:=hh.cell 1 _ rfl
           by_cases hlt:n2<en
           ·have d1:decide ((n2:Int)<(en:Int))=true:=ag (by omega);have d1n:decide (n2<en)=true:=ag (by omega);have d2:(n2:Int)<(en:Int):=by omega
            have e:tt = !bd3:=by rw [mi.out,d1n,Bool.true_and]
            subst e;clear mi hlt hh;go_wp2;go_meet
            case rel=>exact ⟨rfl,rfl⟩
           ·have d1:decide ((n2:Int)<(en:Int))=false:=ah (by omega);have d1n:decide (n2<en)=false:=ah (by omega);have d2:¬ (n2:Int)<(en:Int):=by omega
            have e:tt=false:=by rw [mi.out,d1n,Bool.false_and]
            subst e;clear mi hlt hh;go_wp2;go_meet
            case rel=>exact ⟨rfl,rfl⟩
          case rest =>
           obtain ⟨rfl,rfl⟩:=hcut;obtain ⟨wj,uy⟩:=ab (wc);subst uy
           cases tt with
           |true =>
            have uM:n2<en/\bd3=false:=by
             have:=mi.out.symm;rw [Bool.and_eq_true,decide_eq_true_eq] at this;exact ⟨this.1,by cases bd3;rfl;exact absurd this.2 (by decide)⟩
            obtain ⟨hne,nx⟩:=uM;subst nx;obtain ⟨f4,hf4⟩ : ∃ f4,f3=f4+1:=⟨f3 - 1,by have:=HT.out.1;have:=HT.out.2.1;omega⟩;subst hf4;have pX:=aa (fW s0 g zs false wj HT.out.2.2.2.2.2.1 HT.out.2.2.2.1);have nw:=gE zs false;have ud:=aa (show bP en f4 (A'++(bE zs false).1) (bE zs false).2.1 (bE zs false).2.2=I from by
             rw [<-HT.out.2.2.1];exact (fw en f4 A' zs (by rw [<-HT.out.1];exact hne)).symm)
            obtain ⟨D,hD⟩:=ab ((bE zs false).1);obtain ⟨z2,hz2⟩:=ab ((bE zs false).2.1);obtain ⟨b4,hb4⟩:=ab ((bE zs false).2.2);rw [<-hD,<-hz2,<-hb4] at pX ud;rw [<-hD,<-hz2] at nw;have hz2l:z2.length<=1000000:=Nat.le_trans nw.2.2 HT.out.2.2.2.1;have HO:=aa HT.out.2.2.2.2.1;have HU:=aa HT.out.2.2.2.2.2.2;have o4:=aa HT.out.1;have HFV:=aa HT.out.2.1;have hcl1:=nw.1;have pW:=nw.2.1;clear hD hz2 hb4 nw HT mi wU
            go_wp2_with fail
            refine pX.out.mono ?_;rintro e w4 ⟨u4,rfl,mY,hr4,pY⟩;have vp:=aa hr4;have qn:=aa (HU.out.trans pY);have oY:=aa (HO.out.upd pY (fun b hb e=>by
             rcases hb with hb | hb
             ·omega
             ·have:=(HO.out.lt b hb).1;omega))
            have wQ:=aa ((mY.held (Z:=fun b=>wj.heap.size<=b) (fun b hb _=>hb)).zone (Y:=fun b=>w.heap.size<=b/\(Value.slice ao2 n2 cap2).ownBlock≠some b) (fun b _ hz=>⟨Nat.le_trans HU.out.size hz,fun e=>by have:=(HO.out.lt b e).2;omega⟩));have wD:=aa qn.out.size;obtain ⟨nd,oZ⟩:=ab (D.length);have wL:=aa oZ;rw [<-oZ] at hcl1 pW;clear mY hr4 pY pX HO HU oZ
            go_wp2_with (at_builtin;refine bR (E:=cellE) (Z:=fun b=>w.heap.size<=b) rfl (.tmp 61) (.tmp 63) 67 rfl (.agg #[.int .i64 0,.slice none 0 0]) 32 Tryd.underlying67 ee rfl (by decide) rfl rfl oY.out wQ.out (by rw [<-o4.out,<-wL.out];omega) (by rw [<-o4.out,<-wL.out];omega) wD.out ?_)
            intro v5 w5 nj mF tK hd5;have hu5:Upd (fun b=>(Value.slice ao2 n2 cap2).ownBlock=some b) w4 w5:=⟨mF.os,mF.tape,mF.output,tK.size,fun b hb hn=>tK.block b hb hn⟩;have uj:=aa (vp.out.upd hu5 (fun b hb=>by have:=(oY.out.lt b hb).1;omega));have tD:=aa (show Upd (fun b=>b=g) w w5 from ⟨qn.out.os.symm ▸ mF.os,qn.out.tape.symm ▸ mF.tape,qn.out.output.symm ▸ mF.output,Nat.le_trans qn.out.size mF.size,fun b hb hn=>(mF.block b (by omega)).trans (qn.out.block b hb hn)⟩);have si:=nj.held (fun b hb _=>hb);obtain ⟨ao5,cap5,ev5⟩:=si.len;obtain ⟨A5,yj⟩:=ab (A'++D);have pk:A5.length=n2+nd:=by rw [yj,List.length_append,<-o4.out,<-wL.out]
            rw [<-yj] at ev5 nj ud;rw [pk] at ev5;subst ev5;have HF:=aa (show n2+nd=A5.length/\en - A5.length<=f4/\bP en f4 A5 z2 b4=I/\z2.length<=1000000/\OwnE cellE (fun b=>w.heap.size<=b) w5 w.heap.size 85 (.slice ao5 (n2+nd) cap5) A5/\RdAt s0 w5 g z2 b4/\Upd (fun b=>b=g) w w5 from ⟨pk.symm,by rw [pk];have:=HFV.out;have:=o4.out;omega,ud.out,hz2l,nj,uj.out,tD.out⟩);clear nj mF tK hd5 hu5 si yj pk;go_wp2
            go_roundw
            case rel=>exact ⟨A5,z2,b4,f4,n2+nd,cap5,ao5,by first | rfl | go_num,by omega,by omega,fun _=>.inr (by omega),fun e=>by omega,HF⟩
            case measure=>simp [kc] <;> omega
           |false =>
            have ud:=aa (show I=(A',zs,bd3) from by
             rw [<-HT.out.2.2.1];refine fu _ _ _ _ _ (fun hc=>?_);have:=mi.out;rw [<-HT.out.1] at hc;rw [decide_eq_true hc.1,hc.2] at this
             cases this)
            have hgr:n<n2:=by
             rcases Nat.lt_or_ge n n2 with h | h
             ·exact h
             ·exfalso;have e:n=n2:=by omega
              have hb:=wU e;have:=mi.out;rw [hb,decide_eq_true (by omega)] at this
              cases this
            have d6:((n2:Int) == (en:Int))=decide (n2=en):=by
             by_cases h:n2=en
             ·rw [h];simp
             ·rw [decide_eq_false h,beq_eq_false_iff_ne];omega
            have pU:=aa (bF s0 g zs bd3 (decide (n2=en)) wj HT.out.2.2.2.2.2.1);rw [<-d6] at pU;have HD6:=aa d6;have HO:=aa HT.out.2.2.2.2.1;have HU:=aa HT.out.2.2.2.2.2.2;have o4:=aa HT.out.1;have hzl:=HT.out.2.2.2.1;clear HT mi d6 wU
            go_wp2_with fail
            refine pU.out.mono ?_;rintro e w6 ⟨rfl,tY,r5⟩;have HF:=aa (show n2=I.1.length/\wd - I.1.length<=f2/\cj wd f2 I.1 I.2.1 (I.2.2 || !decide (I.1.length=en))=R/\I.2.1.length<=1000000/\OwnE cellE (fun b=>w.heap.size<=b) w6 w.heap.size 85 (.slice ao2 n2 cap2) I.1/\RdAt s0 w6 g I.2.1 (I.2.2 || !decide (I.1.length=en))/\Upd (fun b=>b=g) w w6 from by
             rw [ud.out];simp only;refine ⟨o4.out,by rw [<-o4.out];have:=HFU.out;have:=p8.out;omega,?_,hzl,HO.out.upd r5 (fun b hb e=>by
              rcases hb with hb | hb
              ·omega
              ·have:=(HO.out.lt b hb).1;omega),?_,HU.out.trans r5⟩
             ·have h:=wn.out;rw [ud.out] at h;exact h.symm
             ·rw [HD6.out,o4.out] at tY;exact tY)
            clear tY r5;go_wp2
            go_roundw
            case rel=>exact ⟨I.1,I.2.1,(I.2.2 || !decide (I.1.length=en)),f2,n2,cap2,ao2,rfl,by omega,HF⟩
            case measure=>simp [kc] <;> omega
end Go.Proofs.YtechjomepdahiaaDoor
