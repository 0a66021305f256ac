import Derived.Test.YthdphijabffpiaaDoorZ0
import Derived.Test.YthdphijabffpiaaDoorMg7
import Derived.Test.YthdphijabffpiaaDoorMg6
import Derived.Test.YthdphijabffpiaaDoorMg3
import Derived.Test.YthdphijabffpiaaDoorCellS
import Derived.Test.YthdphijabffpiaaDoorMg1
import Derived.Lib.MinMax
import Derived.Deep.Cut
import Derived.ProofKit
set_option maxRecDepth 100000
set_option linter.unusedVariables false
set_option linter.unusedSimpArgs false
set_option maxHeartbeats 3000000
namespace Go.Proofs.YthdphijabffpiaaDoor
open Go.RowKit Go.ChangeShapes Go.WideShapes
theorem cB(Z:aj)(v:Value)(Ls:List Ln)(w:World)(hv:HeldE lineE Z w v Ls)(m:Nat)(hm:m<=Ls.length)(hr:∀ k,k<m->al (Ls.getD k zl).1=true)(hb:m<Ls.length->al (Ls.getD m zl).1=false):Calls Tryd.prog 24 #[v] w (Gives w (.int .i64 (if m<Ls.length then (m:Int) else -1))):=by
 have lE:=aa hr;have no:=aa hb;have hv:=hv.lower;obtain ⟨ao,cap,rfl⟩:=hv.len;have il:=(aL hv).2.1;have hmx:=hv.max;have HC:=aa (aL hv).2.2;obtain ⟨n,hn⟩:=ab (Ls.length);rw [<-hn] at il hm hmx ⊢;have HN:=aa hn;obtain ⟨R,hR⟩ : ∃ R:Int,R=if m<n then (m:Int) else -1:=⟨_,rfl⟩;rw [<-hR];have HR:=aa hR;clear hv hr hb hn hR
 go_enter Tryd.func24,Tryd.ntmps24
 go_wp2
 go_loopw [3] (fun i wr=>∃ k:Nat,k<=m/\i=.int .i64 k/\Below w.heap.size w wr) (fun i _=>n - (intOf i).toNat)
 case atStart=>exact ⟨0,Nat.zero_le _,rfl,Below.refl _ _⟩
 case round =>
  obtain ⟨k,hk,rfl,g3⟩:=hrel;have gW:=aa g3;clear g3
  by_cases hlt:k<n
  ·obtain ⟨b,off,tv,rfl,hb,_,c0,c1,hh⟩:=HC.out k (by rw [<-HN.out];exact hlt);have c0:=(gW.out.cell (p:=⟨b,off+k * 2,none⟩) hb).trans c0;have c1:=(gW.out.cell (p:=⟨b,off+k * 2+1,none⟩) hb).trans c1;have hs1:k<m->al (Ls.getD k zl).1=true:=lE.out k;have hs2:k=m->al (Ls.getD k zl).1=false:=fun e=>by subst e;exact no.out (by rw [<-HN.out];exact hlt)
   obtain ⟨⟨C,g⟩,hy⟩ : ∃ y,y=Ls.getD k zl:=⟨_,rfl⟩;rw [<-hy] at c1 hh hs1 hs2;simp only at c1 hh hs1 hs2;obtain ⟨ta,tc,rfl⟩:=hh.len;have HQ:=aa (eZ _ _ C wr (hh.below gW.out));rw [<-cI] at HQ;have d1:(k:Int)<(n:Int):=by omega
   have d1b:decide ((k:Int)<(n:Int))=true:=ag (by omega);have kc:k<cap:=by omega
   clear hy hh hb
   by_cases kt:k<m
   ·rw [hs1 kt] at HQ;clear hs1 hs2
    go_wp2_with fail
    refine (HQ.out).mono ?_;rintro e w2 ⟨rfl,b2⟩;have HF:=aa (gW.out.trans (b2.mono gW.out.size));clear b2 c0 c1;go_wp2
    go_roundw
    case rel=>exact ⟨k+1,by omega,by go_num,HF.out⟩
    case measure=>simp [intOf] <;> omega
   ·have kt:k=m:=by omega
    rw [hs2 kt] at HQ;have HE:=aa (show R=(k:Int) from by rw [HR.out,if_pos (by omega),kt]);clear hs1 hs2 kt
    go_wp2_with fail
    refine (HQ.out).mono ?_;rintro e w2 ⟨rfl,b2⟩;have HF:=aa (gW.out.trans (b2.mono gW.out.size));clear b2 c0 c1;go_wp2;go_ret;exact ⟨by rw [HE.out];rfl,HF.out⟩
  ·obtain rfl:k=n:=by omega
   have d1:¬ (k:Int)<(k:Int):=by omega
   have d1b:decide ((k:Int)<(k:Int))=false:=ah (by omega);have HE:=aa (show R = -1 from by rw [HR.out,if_neg (by omega)]);clear hlt;go_wp2;go_ret;exact ⟨by rw [HE.out];rfl,gW.out⟩
theorem ee{P:Program}{ρ:Operand->Value}{o:Oper}{w:World}{ty:TypeId}{x y:Operand}{b off:Nat}(ho:o.op=.store ty x y)(hx:ρ x=.pointer (some ⟨b,off,none⟩)){a:Option Addr}{n c:Nat}(hy:ρ y=.slice a n c)(u:Value)(hc:w.cell? ⟨b,off,none⟩=some u)(hf:w.frozen? ⟨b,off,none⟩=false)(hi:(P.info? ty).map (·.size)=some 1):(execOp ρ o).run P w=.ok .skip (w.setCell ⟨b,off,none⟩ (.slice a n c)):=by
 obtain ⟨i,hi1,lp⟩:=Option.map_eq_some_iff.1 hi;have hce:1=P.cellsOf ty:=by unfold Program.cellsOf;rw [hi1];exact lp.symm
 unfold execOp
 simp [ho,hx,hy,go_sem,hc,hf,run_sizeOf,hi1,lp]
 exact hce
def stB(Ls:List Ln)(i:Nat):Bool:=decide (i=0) || !(Ls.getD (i - 1) zl).2
def LgAt(w:World)(Ls:List Ln)(i:Nat)(ov:Value)(wx:World):Prop :=
 (i=0/\ov=.slice none 0 0/\Below w.heap.size w wx)\/(0<i/\∃ g cap vs0 lv A p,ov=.slice (some ⟨g,0,none⟩) (vs0.length+1) cap/\LgSt w g cap vs0 lv A p wx/\ay Ls i=if bj Ls (i - 1)=true then (A,p) else (A++[p],[]))
theorem eI(Ls:List Ln)(i:Nat){A:List (List Cl)}{p:List Cl}(h:(A,p)=ay Ls i):A.length<=i/\p.length<=aC Ls i:=by
 have:=br Ls i;rw [<-h] at this;exact this
theorem LgAt.end{w wx:World}{Ls:List Ln}{ov:Value}(h:LgAt w Ls Ls.length ov wx):HeldE cellsE (fun _=>True) wx ov (aY Ls)/\Below w.heap.size w wx:=by
 rcases h with ⟨h0,rfl,hb⟩ | ⟨h0,g,cap,vs0,lv,A,p,rfl,hs,hk⟩
 ·have:Ls=[]:=List.eq_nil_of_length_eq_zero h0;subst this;exact ⟨HeldE.nil _ _ _,hb⟩
 ·have hg:bj Ls (Ls.length - 1)=false:=by
   unfold bj;rw [show Ls.length - 1+1=Ls.length by omega,decide_eq_false (Nat.lt_irrefl _),Bool.and_false]
  rw [hg,if_neg (by decide)] at hk;unfold aY;rw [hk];exact ⟨hs.shut.held,hs.2.2.2.2.2⟩
theorem LgAt.fresh{w wx:World}{Ls:List Ln}{i:Nat}{ov:Value}(h:LgAt w Ls i ov wx)(hs:stB Ls i=true):∃ vs A,LgC w ov vs A wx/\(A,[])=ay Ls i:=by
 rcases h with ⟨rfl,rfl,hb⟩ | ⟨h0,g,cap,vs0,lv,A,p,rfl,hst,hk⟩
 ·exact ⟨[],[],LgC.nul w hb,rfl⟩
 ·have hg:bj Ls (i - 1)=false:=by
   unfold stB at hs;rw [decide_eq_false (by omega),Bool.false_or] at hs;unfold bj
   cases hq:(Ls.getD (i - 1) zl).2 with
   | true=>rw [hq] at hs;cases hs
   | false=>rfl
  rw [hg,if_neg (by decide)] at hk;exact ⟨_,_,hst.shut,hk.symm⟩
theorem LgAt.goes{w wx:World}{Ls:List Ln}{i:Nat}{ov:Value}(h:LgAt w Ls i ov wx)(hi:i<Ls.length)(hs:stB Ls i=false):∃ g cap vs0 lv A p,ov=.slice (some ⟨g,0,none⟩) (vs0.length+1) cap/\LgSt w g cap vs0 lv A p wx/\(A,p)=ay Ls i:=by
 unfold stB at hs
 rcases h with ⟨rfl,rfl,hb⟩ | ⟨h0,g,cap,vs0,lv,A,p,rfl,hst,hk⟩
 ·rw [decide_eq_true rfl] at hs;cases hs
 ·rw [decide_eq_false (by omega),Bool.false_or] at hs;have hg:bj Ls (i - 1)=true:=by
   unfold bj;rw [show i - 1+1=i by omega,decide_eq_true hi,Bool.and_true]
   cases hq:(Ls.getD (i - 1) zl).2 with
   | true=>rfl
   | false=>rw [hq] at hs;cases hs
  rw [hg,if_pos rfl] at hk;exact ⟨g,cap,vs0,lv,A,p,rfl,hst,hk.symm⟩
theorem LgAt.bel{w wx:World}{Ls:List Ln}{i:Nat}{ov:Value}(h:LgAt w Ls i ov wx):Below w.heap.size w wx:=by
 rcases h with ⟨_,_,hb⟩ | ⟨_,g,cap,vs0,lv,A,p,_,hst,_⟩
 ·exact hb
 ·exact hst.2.2.2.2.2
theorem c6(v:Value)(Ls:List Ln)(w:World)(hv:HeldE lineE (fun b=>b<w.heap.size) w v Ls)(hl:Ls.length<=100000)(ht:aC Ls Ls.length<=100000):Calls Tryd.prog 25 #[v] w (fun e w'=>∃ u,e=.returned u/\HeldE cellsE (fun _=>True) w' u (aY Ls)/\Below w.heap.size w w'):=by
 obtain ⟨ao,cap,rfl⟩:=hv.len;have il:=(aL hv).2.1;have j9:=aa (aL hv).2.2;have HT:=aa ht;obtain ⟨n,hn⟩:=ab (Ls.length);have HN:=aa hn;rw [<-hn] at hl il ⊢;clear hn ht hv
 go_enter Tryd.func25,Tryd.ntmps25
 go_wp2
 go_loopw [3,4] (fun ov iv wr=>∃ i:Nat,i<=n/\iv=.int .i64 i/\Hid (LgAt w Ls i ov wr)) (fun _ iv _=>n - (intOf iv).toNat)
 case atStart=>exact ⟨0,Nat.zero_le _,rfl,aa (.inl ⟨rfl,rfl,Below.refl _ _⟩)⟩
 case round =>
  obtain ⟨i,hi,rfl,HST⟩:=hrel;obtain ⟨wo,jS⟩:=ab (wr);subst jS
  by_cases iQ:i<n
  ·have d1:(i:Int)<(n:Int):=by omega
   have d1b:decide ((i:Int)<(n:Int))=true:=ag (by omega);have jB:i<Ls.length:=by rw [<-HN.out];exact iQ
   obtain ⟨st,hst⟩:=ab (stB Ls i);have lf:=aa hst;have nw:∃ uo un uc,u3=.slice uo un uc:=by
    rcases HST.out with ⟨_,h,_⟩ | ⟨_,g,cap,vs0,lv,A,p,h,_⟩
    ·exact ⟨_,_,_,h⟩
    ·exact ⟨_,_,_,h⟩
   clear hst
   go_upto_region 5 with (fail)
   go_cut [25] from 15 to 25 (fun tv wx=>tv=.bool st/\wx=wo)
   case first =>
    by_cases h0:i=0
    ·have hs:st=true:=by rw [lf.out];unfold stB;rw [decide_eq_true h0,Bool.true_or]
     have d2:((i:Int) == 0)=true:=by rw [beq_iff_eq];omega
     subst hs;clear h0 lf;go_wp2;go_meet
     case rel=>exact ⟨by first | rfl | go_num,rfl⟩
    ·have d2:((i:Int) == 0)=false:=by rw [beq_eq_false_iff_ne];omega
     obtain ⟨b,off,tv,e0,hb,_,c0,c1,hh⟩:=j9.out (i - 1) (by omega);subst e0;have c1:=(HST.out.bel.cell (p:=⟨b,off+(i - 1) * 2+1,none⟩) hb).trans c1;obtain ⟨⟨C,g2⟩,jc⟩ : ∃ y,y=Ls.getD (i - 1) zl:=⟨_,rfl⟩;have hs:st = !g2:=by rw [lf.out];unfold stB;rw [<-jc,decide_eq_false h0,Bool.false_or]
     rw [<-jc] at c1;simp only at c1;obtain ⟨j,hj⟩:=ab (i - 1);rw [<-hj] at c1;have lN:IntKind.i64.wrap ((i:Int) - 1)=(j:Int):=by rw [IntKind.wrap_i64];omega
     have hjn:(j:Int)<(n:Int):=by omega
     have hjc:j<cap:=by omega
     subst hs;clear c0 hh jc hj hb lf h0;go_wp2;go_meet
     case rel=>exact ⟨rfl,rfl⟩
   case rest =>
    obtain ⟨rfl,rfl⟩:=hcut
    go_upto_if 25 with (fail)
    go_cut [3] from 26 to 28 (fun ov wx=>∃ g cap m vs0 lv A p,ov=.slice (some ⟨g,0,none⟩) (m+1) cap/\Hid (m=vs0.length)/\Hid ((A,p)=ay Ls i)/\Hid (LgSt w g cap vs0 lv A p wx))
    case first =>
     cases st with
     |true =>
      obtain ⟨vs,A,hc0,ki⟩:=HST.out.fresh lf.out.symm;have hO:Below wc.heap.size wc (wc.alloc (.cells [Value.slice none 0 0].toArray 53)):=af _ _;have HC5:=aa (hc0.below hO);have hlt:=hc0.1.lt;have nd:=aa (ax (E:=rvE) (w:=wc) (ty:=53) (Y:=fun _=>False) (Z:=fun b=>True/\u3.ownBlock≠some b) [.slice none 0 0] (.slice none 0 0) ⟨rfl,rfl⟩ (fun _ _ h=>h.elim) ⟨trivial,fun e=>by have:=hlt _ e;omega⟩);have jP:=aa (Nat.le_trans hc0.2.2.2.size hO.size);have kK:=aa (show vs.length<=200001 from by rw [hc0.2.1];have:=(eI Ls i ki).1;omega);have HKE:=aa ki;have HZ5:=aa (fA (Y:=fun _=>True) HC5.out.1);obtain ⟨uo,un,uc,euo⟩:=nw;subst euo;clear hO hc0 ki hlt HST
      go_wp2_with (at_builtin;refine ai (E:=rvE) (Z:=fun _=>True) rfl (.tmp 26) (.tmp 27) 43 rfl (.slice none 0 0) 24 Tryd.underlying43 gC rfl (by decide) rfl rfl HZ5.out nd.out (by have:=kK.out;simp at this ⊢;omega) (by have:=kK.out;simp at this ⊢;omega) jP.out ?_)
      intro v6 w6 iW je kq kb;obtain ⟨g',cap',e6,hst⟩:=HC5.out.open (fA iW) kq (fun b h1 h2=>kb b (by simpa using h1) h2) je;subst e6;have lO:=aa hst;clear iW je kq kb hst;go_wp2;go_meet
      case rel=>exact ⟨g',cap',_,_,_,_,_,by go_num,aa rfl,HKE,lO⟩
     |false =>
      obtain ⟨g,cap2,vs0,lv,A,p,e3,hst,ki⟩:=HST.out.goes jB lf.out.symm;subst e3;have kE:=aa hst;have HK0:=aa ki;clear hst ki HST nw;go_wp2;go_meet
      case rel=>exact ⟨g,cap2,_,_,_,_,_,rfl,aa rfl,HK0,kE⟩
    case rest =>
     clear HST nw lf;obtain ⟨g,cap2,m,vs0,lv,A,p,rfl,HM,HK,HS⟩:=hcut;obtain ⟨wq,mh⟩:=ab (wc);subst mh;obtain ⟨b,off,tv,e0,hb,_,c0,c1,hh⟩:=j9.out i jB;subst e0;have iH:=dS Ls i jB;obtain ⟨⟨C,g1⟩,jc⟩ : ∃ y,y=Ls.getD i zl:=⟨_,rfl⟩;rw [<-jc] at c1 hh iH;simp only at c1 hh iH;obtain ⟨go,hgo⟩:=ab (bj Ls i);have HGE:=aa hgo;have jv:=aa (show go=(g1 && decide (i+1<n)) from by rw [hgo];unfold bj;rw [<-jc,HN.out]);have mr:=aa (show aQ Ls i=an (C.take (aJ C go)) from by unfold aQ;rw [<-jc,<-hgo]);have jR:=aa (show (aQ Ls i).length<=100000/\p.length<=100000/\A.length<=100000 from by
      have h1:=cp Ls i;have h2:=dS Ls i jB;have h3:=HT.out;have h4:=eI Ls i HK.out;have h5:=bG Ls (Nat.le_of_lt jB);omega)
     obtain ⟨tx,tc,etv⟩:=hh.len;subst etv;have g3:=HS.out.2.2.2.2.2;have c0:=(g3.cell (p:=⟨b,off+i * 2,none⟩) hb).trans c0;have c1:=(g3.cell (p:=⟨b,off+i * 2+1,none⟩) hb).trans c1;have kH:=HS.out.1.lt g rfl;have l7:=HS.out.2.2.2.1.lt;have m9:=aa ((hh.below g3).zone (Y:=fun x=>x≠g/\lv.ownBlock≠some x) (fun x _ hz=>⟨by omega,fun e=>by have:=(l7 x e).1;omega⟩));have iS:=aa (show C.length<=100000 from Nat.le_trans iH HT.out);have HLC:=aa (dc C go);have lK:i<cap:=by omega
     have hwi:IntKind.i64.wrap ((i:Int)+1)=((i+1:Nat):Int):=by rw [IntKind.wrap_i64];omega
     have kI:=aa kH;obtain ⟨ij,hccap,hcc⟩:=aB m9.out;have HCC:=aa hcc;clear ij hcc jc hb hh iH hgo g3 kH l7
     go_upto_region 7 with (fail)
     go_cut [5] from 29 to 40 (fun gv wx=>gv=.bool go/\wx=wq)
     case first =>
      have hg:=jv.out
      cases g1 with
      |false =>
       rw [Bool.false_and] at hg;subst hg;clear jv;go_wp2;go_meet
       case rel=>exact ⟨rfl,rfl⟩
      |true =>
       rw [Bool.true_and] at hg
       by_cases hlast:i+1<n
       ·have d3:decide ((i:Int)+1<(n:Int))=true:=ag (by omega);have d4:(i:Int)+1<(n:Int):=by omega
        rw [decide_eq_true hlast] at hg;subst hg;clear jv hlast;go_wp2;go_meet
        case rel=>exact ⟨by first | rfl | (congr 1;simp;omega),rfl⟩
       ·have d3:decide ((i:Int)+1<(n:Int))=false:=ah (by omega);have d4:¬ (i:Int)+1<(n:Int):=by omega
        rw [decide_eq_false hlast] at hg;subst hg;clear jv hlast;go_wp2;go_meet
        case rel=>exact ⟨by first | rfl | (congr 1;simp;omega),rfl⟩
     case rest =>
      obtain ⟨rfl,rfl⟩:=hcut;clear c1 jv;obtain ⟨nc,mv⟩:=ab (C.length);rw [<-mv] at c0 hccap m9 iS HLC;have ll:=aa mv;have hnc9:nc<=100000:=iS.out;clear mv
      go_upto_region 10 with (fail)
      obtain ⟨t1,ht1⟩:=ab ((go && decide (0<nc) && ((C.getD (nc - 1) zc).1 == 0)));have j0:=aa ht1;clear ht1 c0
      go_cut [61] from 48 to 61 (fun tv wx=>tv=.bool t1/\wx=wc)
      case first =>
       cases go with
       |false =>
        have e:=j0.out;rw [Bool.false_and,Bool.false_and] at e;subst e;clear j0;go_wp2;go_meet
        case rel=>exact ⟨rfl,rfl⟩
       |true =>
        by_cases h0:nc=0
        ·have e:t1=false:=by rw [j0.out,h0];rfl
         have d3:decide ((0:Int)<(nc:Int))=false:=ah (by omega);have d3n:decide (0<nc)=false:=ah (by omega);subst e;clear j0 h0;go_wp2;go_meet
         case rel=>exact ⟨rfl,rfl⟩
        ·obtain ⟨j,hj⟩ : ∃ j,j=nc - 1:=⟨_,rfl⟩;have d3:decide ((0:Int)<(nc:Int))=true:=ag (by omega);have d3n:decide (0<nc)=true:=ag (by omega);obtain ⟨b2,off2,tv2,e2,hb2,_,y0,y1,jd⟩:=HCC.out j (by rw [<-ll.out];omega);subst e2;obtain ⟨K,hK⟩:=ab ((C.getD j zc).1);have e:t1=(K == 0):=by rw [j0.out,d3n,<-hj,<-hK];rfl
         rw [<-hK] at y0;have lN:IntKind.i64.wrap ((nc:Int) - 1)=(j:Int):=by rw [IntKind.wrap_i64];omega
         have hjn:(j:Int)<(nc:Int):=by omega
         have hjc:j<tc:=by omega
         subst e;clear j0 h0 jd hb2 hj hK y1;go_wp2;go_meet
         case rel=>exact ⟨by first | rfl | (congr 1;simp),rfl⟩
      case rest =>
       obtain ⟨rfl,rfl⟩:=hcut;obtain ⟨wd,hwd⟩:=ab (wc);subst hwd;obtain ⟨N1,lC⟩ : ∃ N1:Nat,N1=if t1=true then nc - 1 else nc:=⟨_,rfl⟩;have jL:N1<=nc:=by rw [lC];split <;> omega
       have li:=aa (show (go=false->aI C N1=dy C)/\(go=true->N1=aJ C true) from by
        refine ⟨fun e=>?_,fun e=>?_⟩
        ·have h1:t1=false:=by rw [j0.out,e];rfl
         rw [lC,h1,if_neg (by decide)];unfold dy;rw [ll.out]
        ·have h1:=j0.out;rw [e,Bool.true_and] at h1;unfold aJ;rw [if_pos rfl,<-ll.out,lC,h1]
         by_cases hz:nc=0
         ·rw [hz];simp
         ·rw [decide_eq_true (by omega),Bool.true_and]
          by_cases hk:(C.getD (nc - 1) zc).1=0
          ·rw [if_pos hk,if_pos (by rw [beq_iff_eq];exact hk)]
          ·rw [if_neg hk,if_neg (by rw [beq_iff_eq];exact hk)])
       have ja:t1=true->0<nc:=fun e=>by
        have h1:=j0.out;rw [e] at h1
        by_cases hz:nc=0
        ·rw [hz] at h1;simp at h1
        ·omega
       have me:=aa lC;clear lC j0
       go_upto_if 61 with (fail)
       go_cut [7] from 62 to 63 (fun nv wx=>nv=.int .i64 (N1:Int)/\wx=wd)
       case first =>
        cases t1 with
        |true =>
         have hp:=ja rfl;have e:=me.out;rw [if_pos rfl] at e;have lN:IntKind.i64.wrap ((nc:Int) - 1)=(N1:Int):=by rw [IntKind.wrap_i64];omega
         clear e ja me;go_wp2;go_meet
         case rel=>exact ⟨by first | rfl | rw [lN],rfl⟩
        |false =>
         have e:=me.out;rw [if_neg (by decide)] at e;subst e;clear ja me;go_wp2;go_meet
         case rel=>exact ⟨rfl,rfl⟩
       case rest =>
        obtain ⟨rfl,rfl⟩:=hcut;obtain ⟨we,mc⟩:=ab (wc);subst mc;clear ja me;go_wp2
        go_loopw [7] (fun nv wr=>∃ k:Nat,k<=nc/\nv=.int .i64 k/\Hid ((go=false->aI C k=dy C)/\(go=true->k=aJ C true))/\wr=we) (fun nv _=>(intOf nv).toNat)
        case atStart=>exact ⟨N1,jL,rfl,li,rfl⟩
        case round =>
         obtain ⟨k,hk,rfl,HQ,rfl⟩:=hrel;obtain ⟨wf,hwf⟩:=ab (wr);subst hwf;clear li jL;obtain ⟨tt,ky⟩:=ab ((!go && decide (0<k) && ((C.getD (k - 1) zc).1 == 0)));have j4:=aa ky;clear ky
         go_upto_region 12 with (fail)
         go_cut [78] from 64 to 78 (fun tv wx=>tv=.bool tt/\wx=wf)
         case first =>
          cases go with
          |true =>
           have e:=j4.out;rw [Bool.not_true,Bool.false_and,Bool.false_and] at e;subst e;clear j4;go_wp2;go_meet
           case rel=>exact ⟨rfl,rfl⟩
          |false =>
           by_cases h0:k=0
           ·have e:tt=false:=by rw [j4.out,h0];rfl
            have d3:decide ((0:Int)<(k:Int))=false:=ah (by omega);have d3n:decide (0<k)=false:=ah (by omega);subst e;clear j4 h0;go_wp2;go_meet
            case rel=>exact ⟨rfl,rfl⟩
           ·obtain ⟨j,hj⟩ : ∃ j,j=k - 1:=⟨_,rfl⟩;have d3:decide ((0:Int)<(k:Int))=true:=ag (by omega);have d3n:decide (0<k)=true:=ag (by omega);obtain ⟨b2,off2,tv2,e2,hb2,_,y0,y1,jd⟩:=HCC.out j (by rw [<-ll.out];omega);subst e2;obtain ⟨K,hK⟩:=ab ((C.getD j zc).1);have e:tt=(K == 0):=by rw [j4.out,d3n,<-hj,<-hK];rfl
            rw [<-hK] at y0;have lN:IntKind.i64.wrap ((k:Int) - 1)=(j:Int):=by rw [IntKind.wrap_i64];omega
            have hjn:(j:Int)<(nc:Int):=by omega
            have hjc:j<tc:=by omega
            subst e;clear j4 h0 jd hb2 hj hK y1;go_wp2;go_meet
            case rel=>exact ⟨by first | rfl | (congr 1;simp),rfl⟩
         case rest =>
          obtain ⟨rfl,rfl⟩:=hcut;obtain ⟨wg,hwg⟩:=ab (wc);subst hwg
          cases tt with
          |true =>
           have e:=j4.out.symm;rw [Bool.and_eq_true,Bool.and_eq_true,decide_eq_true_eq,beq_iff_eq] at e;obtain ⟨⟨e1,e2⟩,e3⟩:=e;obtain ⟨j,hj⟩ : ∃ j,k=j+1:=⟨k - 1,by omega⟩;subst hj;rw [Nat.add_sub_cancel] at e3;have HQN:=aa (show (go=false->aI C j=dy C)/\(go=true->j=aJ C true) from ⟨fun e=>by
            have h1:=HQ.out.1 e;unfold aI at h1;rw [if_pos e3] at h1;exact h1,fun e=>by rw [e] at e1;cases e1⟩)
           have lN:IntKind.i64.wrap (((j+1:Nat):Int) - 1)=(j:Int):=by rw [IntKind.wrap_i64];omega
           clear e1 e2 e3 j4 HQ;go_wp2
           go_roundw
           case rel=>exact ⟨j,by omega,by go_num,HQN,trivial⟩
           case measure=>simp [intOf] <;> omega
          |false =>
           have jm:=aa (show aJ C go=k from by
            cases go with
            |true=>exact (HQ.out.2 rfl).symm
            |false =>
             have h1:=HQ.out.1 rfl;unfold aJ;rw [if_neg (by decide),<-h1]
             cases k with
             |zero=>rfl
             |succ j =>
              unfold aI;have e:=j4.out;rw [Bool.not_false,Bool.true_and,decide_eq_true (by omega),Bool.true_and,Nat.add_sub_cancel] at e;rw [if_neg (beq_eq_false_iff_ne.1 e.symm)])
           rw [jm.out] at mr HLC;have hm9:m<=200000:=by rw [HM.out,HS.out.2.1];have:=jR.out;omega
           have hmw:IntKind.i64.wrap ((m:Int)+1 - 1)=(m:Int):=by rw [IntKind.wrap_i64];omega
           have hmw2:wrap64 (m:Int)=(m:Int):=by unfold wrap64;omega
           clear HQ j4 jm
           go_upto_region 15 with (fail)
           have hst:=HS.out;have kH:=kI.out;have mN:=aa (gS (i:=m) hst.1 (by rw [HM.out];simp));rw [show (vs0++[lv]).getD m rz=lv from by rw [aT,HM.out,if_neg (Nat.lt_irrefl _),Nat.sub_self];rfl] at mN;have ml:=aa hst.2.2.2.1;have my:=aa hst.2.2.2.2.1;have HWS:=aa hst.2.2.2.2.2.size;have ny:=aa (bJ m9.out k (by rw [<-ll.out];exact hk));have kB:=aa (fun (w':World) (hb:Below wg.heap.size wg w')=>fS (fun x=>x≠g/\lv.ownBlock≠some x) _ _ w' (fun x hx=>⟨by have:=hb.size;omega,fun e=>by have:=(ml.out.lt x e).2;have:=hb.size;omega⟩) (ny.out.below hb) (by rw [List.length_take];have:=iS.out;have:=ll.out;omega));rw [<-mr.out] at kB;obtain ⟨P,hP⟩:=ab (aQ Ls i);rw [<-hP] at kB jR;have HPP:=aa hP;have hgd:decide (k<=tc)=true:=ag (by omega);have hkt:k<=tc:=by omega
           have hmb:(m:Int)<(m:Int)+1:=by omega
           clear hst hP;obtain ⟨gY,g5⟩ : ∃ EE:Nat->Value->World->Prop,EE=fun jj xx ww=>match jj with
             |0=>xx=.slice (some ⟨g,0,none⟩) (m+1) cap2
             |1=>xx=.int .i64 (m:Int)
             |2=>xx=.slice (some ⟨g,0,none⟩) (m+1) cap2
             |3=>xx=.int .i64 (m:Int)
             |4=>xx=.pointer (some ⟨g,m,none⟩)
             |5=>xx=lv
             |6=>xx=.slice tx nc tc
             |7=>xx=.int .i64 (k:Int)
             |8=>xx=.slice tx k tc
             |9=>(fun x w'=>HeldE cellE (fun b=>b≠g/\lv.ownBlock≠some b) w' x P) xx ww
             |10=>(fun x w'=>OwnE cellE (fun b=>b≠g) w' w.heap.size 59 x (p++P)/\∀ b,b<wg.heap.size->lv.ownBlock≠some b->x.ownBlock≠some b) xx ww
             |11=>xx=.pointer (some ⟨g,m,none⟩)
             |12=>xx=undef
             |_=>True:=⟨_,rfl⟩
           have ergn0:∀ xx ww,gY 0 xx ww=(xx=.slice (some ⟨g,0,none⟩) (m+1) cap2):=fun xx ww=>congrFun (congrFun (congrFun g5 0) xx) ww
           have ergn1:∀ xx ww,gY 1 xx ww=(xx=.int .i64 (m:Int)):=fun xx ww=>congrFun (congrFun (congrFun g5 1) xx) ww
           have ergn2:∀ xx ww,gY 2 xx ww=(xx=.slice (some ⟨g,0,none⟩) (m+1) cap2):=fun xx ww=>congrFun (congrFun (congrFun g5 2) xx) ww
           have ergn3:∀ xx ww,gY 3 xx ww=(xx=.int .i64 (m:Int)):=fun xx ww=>congrFun (congrFun (congrFun g5 3) xx) ww
           have ergn4:∀ xx ww,gY 4 xx ww=(xx=.pointer (some ⟨g,m,none⟩)):=fun xx ww=>congrFun (congrFun (congrFun g5 4) xx) ww
           have ergn5:∀ xx ww,gY 5 xx ww=(xx=lv):=fun xx ww=>congrFun (congrFun (congrFun g5 5) xx) ww
           have ergn6:∀ xx ww,gY 6 xx ww=(xx=.slice tx nc tc):=fun xx ww=>congrFun (congrFun (congrFun g5 6) xx) ww
           have ergn7:∀ xx ww,gY 7 xx ww=(xx=.int .i64 (k:Int)):=fun xx ww=>congrFun (congrFun (congrFun g5 7) xx) ww
           have ergn8:∀ xx ww,gY 8 xx ww=(xx=.slice tx k tc):=fun xx ww=>congrFun (congrFun (congrFun g5 8) xx) ww
           have ergn9:∀ xx ww,gY 9 xx ww=((fun x w'=>HeldE cellE (fun b=>b≠g/\lv.ownBlock≠some b) w' x P) xx ww):=fun xx ww=>congrFun (congrFun (congrFun g5 9) xx) ww
           have ergn10:∀ xx ww,gY 10 xx ww=((fun x w'=>OwnE cellE (fun b=>b≠g) w' w.heap.size 59 x (p++P)/\∀ b,b<wg.heap.size->lv.ownBlock≠some b->x.ownBlock≠some b) xx ww):=fun xx ww=>congrFun (congrFun (congrFun g5 10) xx) ww
           have ergn11:∀ xx ww,gY 11 xx ww=(xx=.pointer (some ⟨g,m,none⟩)):=fun xx ww=>congrFun (congrFun (congrFun g5 11) xx) ww
           have ergn12:∀ xx ww,gY 12 xx ww=(xx=undef):=fun xx ww=>congrFun (congrFun (congrFun g5 12) xx) ww
           obtain ⟨iL,iZ⟩ : ∃ CC:Array Bool->World->Prop,CC=fun L8 w'=>(Mix.one L8 10=0->Below wg.heap.size wg w')/\(Mix.one L8 12=0->Upd (fun b=>lv.ownBlock=some b) wg w')/\(Mix.one L8 12=1->∃ lv2,LgSt w g cap2 vs0 lv2 A (p++P) w'):=⟨_,rfl⟩
           have krgn:∀ i L w,i≠10->i≠12 ->  iL L w->iL (L.setIfInBounds i true) w:=by
            intro i L w q10 q12 h;rw [iZ] at h ⊢;simp only [Mix.one_ne q10,Mix.one_ne q12];exact h
           obtain ⟨ie,jh⟩ : ∃ XX:Nat->World->World->Prop,XX=fun kk ww1 ww2=>if kk=10 then (fun x y=>Upd (fun b=>lv.ownBlock=some b) x y) ww1 ww2 else (fun x y=>Upd (fun b=>b=g) x y) ww1 ww2:=⟨_,rfl⟩
           have xrgn:∀ {k:Nat} (w:World),ie k w w:=by
            intro k w;rw [jh];show if k=10 then _ else _
            split
            ·exact Upd.refl _ _
            ·exact Upd.refl _ _
           have crgn:iL (Array.replicate 13 false) wg.drew:=by rw [iZ];exact ⟨fun _=>(Below.refl _ _).drew,fun _=>(Upd.refl _ _).drew,fun e=>absurd e (by decide)⟩
           have brgn:∀ L w w1,iL L w->Below w.heap.size w w1->iL L w1:=by
            intro L w w1 h hb;rw [iZ] at h ⊢
            (obtain ⟨q1,q2,q3⟩:=h;exact ⟨fun e=>(q1 e).trans (hb.mono (q1 e).size),fun e=>(q2 e).trans (.ofBelow hb),fun e=>by obtain ⟨l2,h2⟩:=q3 e;exact ⟨l2,h2.below hb⟩⟩)
           have xbrgn:∀ {k:Nat} (w w1:World),Below w.heap.size w w1->ie k w w1:=by
            intro k w w1 hb;rw [jh];show if k=10 then _ else _
            split
            ·exact Upd.ofBelow hb
            ·exact Upd.ofBelow hb
           have Hrgnb:=aa brgn;have Hrgnxb:Hid (∀ {k:Nat} (w w1:World),Below w.heap.size w w1->ie k w w1):=@xbrgn;clear brgn xbrgn;have jf:=aa g5;clear g5;have g9:=aa krgn;have ia:Hid (∀ {k:Nat} (w:World),ie k w w):=@xrgn;have Hrgnc:=aa crgn;have hU:=aa iZ;have iU:=aa jh;have iE:=aa ergn0;have iA:=aa ergn1;have iG:=aa ergn2;have iw:=aa ergn3;have iF:=aa ergn4;have ix:=aa ergn5;have iD:=aa ergn6;have iy:=aa ergn7;have iz:=aa ergn8;have iB:=aa ergn9;have iu:=aa ergn10;have ik:=aa ergn11;have it:=aa ergn12;clear krgn xrgn crgn iZ jh ergn0 ergn1 ergn2 ergn3 ergn4 ergn5 ergn6 ergn7 ergn8 ergn9 ergn10 ergn11 ergn12
           go_wp2_with fail
           refine RegX.regionF gY iL ie ?_ (by kernel_rfl) (by kernel_rfl) (by kernel_rfl) Hrgnc.out (fun Frgn g4=>?_)
           ·intro ii jj x w w1 iN hr hx h;rw [iU.out] at hx
            by_cases hi:ii=10
            ·subst hi;simp only [if_pos] at hx
             match jj with
             |0=>rw [iE.out] at h ⊢;exact h
             |1=>rw [iA.out] at h ⊢;exact h
             |2=>rw [iG.out] at h ⊢;exact h
             |3=>rw [iw.out] at h ⊢;exact h
             |4=>rw [iF.out] at h ⊢;exact h
             |5=>rw [ix.out] at h ⊢;exact h
             |6=>rw [iD.out] at h ⊢;exact h
             |7=>rw [iy.out] at h ⊢;exact h
             |8=>rw [iz.out] at h ⊢;exact h
             |9=>rw [iB.out] at h ⊢;(exact HeldE.upd h hx (fun b hb e=>hb.2 e))
             |10=>exact absurd rfl iN
             |11=>rw [ik.out] at h ⊢;exact h
             |12=>rw [it.out] at h ⊢;exact h
             |jj+13=>rw [jf.out];trivial
            ·simp only [if_neg hi] at hx
             match jj with
             |0=>rw [iE.out] at h ⊢;exact h
             |1=>rw [iA.out] at h ⊢;exact h
             |2=>rw [iG.out] at h ⊢;exact h
             |3=>rw [iw.out] at h ⊢;exact h
             |4=>rw [iF.out] at h ⊢;exact h
             |5=>rw [ix.out] at h ⊢;exact h
             |6=>rw [iD.out] at h ⊢;exact h
             |7=>rw [iy.out] at h ⊢;exact h
             |8=>rw [iz.out] at h ⊢;exact h
             |9=>rw [iB.out] at h ⊢;(first | exact HeldE.upd h hx (fun b hb e=>hb.1 e) | exact ⟨OwnE.upd h.1 hx (fun b hb e=>by rcases hb with hb | hb;exact hb e;exact h.2 g kI.out.2 my.out (by rw [hb,e])),h.2⟩)
             |10=>rw [iu.out] at h ⊢;(first | exact HeldE.upd h hx (fun b hb e=>hb.1 e) | exact ⟨OwnE.upd h.1 hx (fun b hb e=>by rcases hb with hb | hb;exact hb e;exact h.2 g kI.out.2 my.out (by rw [hb,e])),h.2⟩)
             |11=>rw [ik.out] at h ⊢;exact h
             |12=>rw [it.out] at h ⊢;exact h
             |jj+13=>rw [jf.out];trivial
           simp only [Reg.frame,Reg.dsts,List.map_cons,List.map_nil,Mix.put_lit,Reg.put_none,List.set_cons_succ,List.set_cons_zero,Nat.zero_add,Nat.reduceAdd] at g4;refine ⟨?_,?_⟩
           ·refine ⟨?_,?_,?_,?_,?_,?_,?_,?_,?_,?_,?_,?_,?_,trivial⟩
            ·intro Lq wq xq hh;simp only [g4];refine .inl ⟨rfl,?_⟩;unfold Reg.upon;have hk:=g9.out 0 Lq wq (by decide) (by decide)  hh.cls;have hx:ie 0 wq wq:=ia.out wq;have he:gY 0 (.slice (some ⟨g,0,none⟩) (m+1) cap2) wq:=by rw [iE.out]
             have HK:=aa (And.intro hk (And.intro he hx));clear hk hx he;go_simp;exact HK.out
            ·intro Lq wq xq hh;simp only [g4];refine .inl ⟨rfl,?_⟩;unfold Reg.upon;have hk:=g9.out 1 Lq wq (by decide) (by decide)  hh.cls;have hx:ie 1 wq wq:=ia.out wq;have he:gY 1 (.int .i64 (m:Int)) wq:=by rw [iA.out]
             have HK:=aa (And.intro hk (And.intro he hx));clear hk hx he;go_simp;exact HK.out
            ·intro Lq wq xq hh;simp only [g4];refine .inl ⟨rfl,?_⟩;unfold Reg.upon;have hk:=g9.out 2 Lq wq (by decide) (by decide)  hh.cls;have hx:ie 2 wq wq:=ia.out wq;have he:gY 2 (.slice (some ⟨g,0,none⟩) (m+1) cap2) wq:=by rw [iG.out]
             have HK:=aa (And.intro hk (And.intro he hx));clear hk hx he;go_simp;exact HK.out
            ·intro Lq wq xq hh;simp only [g4];refine .inl ⟨rfl,?_⟩;unfold Reg.upon;have hk:=g9.out 3 Lq wq (by decide) (by decide)  hh.cls;have hx:ie 3 wq wq:=ia.out wq;have he:gY 3 (.int .i64 (m:Int)) wq:=by rw [iw.out]
             have HK:=aa (And.intro hk (And.intro he hx));clear hk hx he;go_simp;exact HK.out
            ·intro Lq wq xq hh;have d2:gY 2 (xq 2) wq:=hh.val 2 (by kernel_rfl) (by kernel_rfl);rw [iG.out] at d2;have d3:gY 3 (xq 3) wq:=hh.val 3 (by kernel_rfl) (by kernel_rfl);rw [iw.out] at d3;simp only [g4,d2,d3];clear d2 d3;refine .inl ⟨rfl,?_⟩;unfold Reg.upon;have hk:=g9.out 4 Lq wq (by decide) (by decide)  hh.cls;have hx:ie 4 wq wq:=ia.out wq;have he:gY 4 (.pointer (some ⟨g,m,none⟩)) wq:=by rw [iF.out]
             have HK:=aa (And.intro hk (And.intro he hx));clear hk hx he;go_simp;exact HK.out
            ·intro Lq wq xq hh;have d4:gY 4 (xq 4) wq:=hh.val 4 (by kernel_rfl) (by kernel_rfl);rw [iF.out] at d4;simp only [g4,d4];clear d4;refine .inl ⟨rfl,?_⟩;unfold Reg.upon;have hc:iL Lq wq:=hh.cls;rw [hU.out] at hc;have q0:=((hc.1 (Mix.one_un (hh.notYet 10 (by kernel_rfl)))).cell (p:=⟨g,m,none⟩) kI.out.2).trans mN.out.1;clear hc;have hk:=g9.out 5 Lq wq (by decide) (by decide)  hh.cls;have hx:ie 5 wq wq:=ia.out wq;have he:gY 5 (lv) wq:=by rw [ix.out]
             have HK:=aa (And.intro hk (And.intro he hx));clear hk hx he;go_simp;exact HK.out
            ·intro Lq wq xq hh;simp only [g4];refine .inl ⟨rfl,?_⟩;unfold Reg.upon;have hk:=g9.out 6 Lq wq (by decide) (by decide)  hh.cls;have hx:ie 6 wq wq:=ia.out wq;have he:gY 6 (.slice tx nc tc) wq:=by rw [iD.out]
             have HK:=aa (And.intro hk (And.intro he hx));clear hk hx he;go_simp;exact HK.out
            ·intro Lq wq xq hh;simp only [g4];refine .inl ⟨rfl,?_⟩;unfold Reg.upon;have hk:=g9.out 7 Lq wq (by decide) (by decide)  hh.cls;have hx:ie 7 wq wq:=ia.out wq;have he:gY 7 (.int .i64 (k:Int)) wq:=by rw [iy.out]
             have HK:=aa (And.intro hk (And.intro he hx));clear hk hx he;go_simp;exact HK.out
            ·intro Lq wq xq hh;have d6:gY 6 (xq 6) wq:=hh.val 6 (by kernel_rfl) (by kernel_rfl);rw [iD.out] at d6;have d7:gY 7 (xq 7) wq:=hh.val 7 (by kernel_rfl) (by kernel_rfl);rw [iy.out] at d7;simp only [g4,d6,d7];clear d6 d7;refine .inl ⟨rfl,?_⟩;unfold Reg.upon;have hk:=g9.out 8 Lq wq (by decide) (by decide)  hh.cls;have hx:ie 8 wq wq:=ia.out wq;have he:gY 8 (.slice tx k tc) wq:=by rw [iz.out]
             have HK:=aa (And.intro hk (And.intro he hx));clear hk hx he;go_simp;exact HK.out
            ·intro Lq wq xq hh;have d8:gY 8 (xq 8) wq:=hh.val 8 (by kernel_rfl) (by kernel_rfl);rw [iz.out] at d8;simp only [g4,d8];clear d8;refine .inl ⟨rfl,?_⟩;unfold Reg.upon;have hc:iL Lq wq:=hh.cls;rw [hU.out] at hc;go_simp;refine (kB.out wq (hc.1 (Mix.one_un (hh.notYet 10 (by kernel_rfl))))).mono ?_;rintro e w2 ⟨v2,rfl,ig,hb2⟩;have hsz:=(hc.1 (Mix.one_un (hh.notYet 10 (by kernel_rfl)))).size;exact ⟨_,rfl,g9.out 9 Lq w2 (by decide) (by decide) (Hrgnb.out Lq wq w2 hh.cls hb2),(by rw [iB.out];exact ig.held fun b hb _=>⟨by have:=kI.out.2;omega,fun e=>by have:=(ml.out.lt b e).2;omega⟩),Hrgnxb.out wq w2 hb2⟩
            ·intro Lq wq xq hh;have d5:gY 5 (xq 5) wq:=hh.val 5 (by kernel_rfl) (by kernel_rfl);rw [ix.out] at d5;have d9:gY 9 (xq 9) wq:=hh.val 9 (by kernel_rfl) (by kernel_rfl);rw [iB.out] at d9;simp only [g4,d5];clear d5;refine .inl ⟨rfl,?_⟩;unfold Reg.upon;have hc:iL Lq wq:=hh.cls;rw [hU.out] at hc;have mZ:=hc.1 hh.un;have mu:=hc.2.1 (Mix.one_un (hh.notYet 12 (by kernel_rfl)));obtain ⟨v',w',hr,h1,h2,h3,h4⟩:=ct (P:=Tryd.prog) (E:=cellE) (Z:=fun b=>b≠g) (w:=wq) (B:=w.heap.size) (ty:=59) 53 _ (.agg #[.int .i64 0,.slice none 0 0]) 32 Tryd.underlying53 aW rfl (by decide) (ml.out.below mZ) d9 (by have:=jR.out;omega) (by have:=jR.out;omega) (by have:=mZ.size;have:=HWS.out;omega);have hu:Upd (fun b=>lv.ownBlock=some b) wq w':=⟨h2.os,h2.tape,h2.output,h3.size,fun b hb hn=>h3.block b hb hn⟩;rw [eo rfl rfl rfl hr];refine ⟨?_,?_,?_⟩
             ·rw [hU.out];refine ⟨fun e=>?_,fun _=>mu.trans hu,fun e=>?_⟩
              ·rw [Mix.one_set (by rw [hh.size];decide)] at e;exact absurd e (by decide)
              ·rw [Mix.one_ne (by decide),Mix.one_un (hh.notYet 12 (by kernel_rfl))] at e;cases e
             ·rw [iu.out];exact ⟨h1,fun b hb hn=>h4 b (by have:=mZ.size;omega) hn⟩
             ·rw [iU.out];exact hu
            ·intro Lq wq xq hh;have d0:gY 0 (xq 0) wq:=hh.val 0 (by kernel_rfl) (by kernel_rfl);rw [iE.out] at d0;have d1:gY 1 (xq 1) wq:=hh.val 1 (by kernel_rfl) (by kernel_rfl);rw [iA.out] at d1;simp only [g4,d0,d1];clear d0 d1;refine .inl ⟨rfl,?_⟩;unfold Reg.upon;have hk:=g9.out 11 Lq wq (by decide) (by decide)  hh.cls;have hx:ie 11 wq wq:=ia.out wq;have he:gY 11 (.pointer (some ⟨g,m,none⟩)) wq:=by rw [ik.out]
             have HK:=aa (And.intro hk (And.intro he hx));clear hk hx he;go_simp;exact HK.out
            ·intro Lq wq xq hh;have d10:gY 10 (xq 10) wq:=hh.val 10 (by kernel_rfl) (by kernel_rfl);rw [iu.out] at d10;have d11:gY 11 (xq 11) wq:=hh.val 11 (by kernel_rfl) (by kernel_rfl);rw [ik.out] at d11;simp only [g4,d11];clear d11;refine .inl ⟨rfl,?_⟩;unfold Reg.upon;have hc:iL Lq wq:=hh.cls;rw [hU.out] at hc;have mu:=hc.2.1 hh.un;obtain ⟨a5,c5,e5⟩:=(bB (d10.1.keep (Y:=fun _=>True) (.refl _ _) (fun _ _ _=>trivial)) (fun _ _=>trivial)).len;have kF:=mu.keep;have hcel:=(kF.cell (o:=m) kI.out.2 my.out).trans mN.out.1;have hfre:(wq).frozen? ⟨g,m,none⟩=false:=by
              rw [<-mN.out.2];exact World.frozen?_of_block (kF.block g kI.out.2 my.out)
             have kN:=HS.out.app (lv':=xq 10) d10.1 (kF.mono (fun b _ hz=>hz)) d10.2 (mu.below HWS.out (fun b e=>(ml.out.lt b e).1)) (by rw [e5];rfl);rw [<-HM.out] at kN;rw [e5] at kN;rw [ee (b:=g) (off:=m) rfl rfl e5 lv hcel hfre (by kernel_rfl)];refine ⟨?_,by rw [it.out],by rw [iU.out];exact (Upd.refl (fun b=>b=g) wq).setCell (p:=⟨g,m,none⟩) (.inl rfl) _⟩;rw [hU.out];refine ⟨fun e=>?_,fun e=>?_,fun _=>⟨_,kN⟩⟩
             ·have:=hh.isDone 10 (by kernel_rfl);rw [Mix.one_ne (by decide),this] at e;cases e
             ·rw [Mix.one_set (by rw [hh.size];decide)] at e;exact absurd e (by decide)
           intro xq wrgn hcrgn hvrgn;rw [hU.out] at hcrgn;simp only [g4];clear hvrgn g4 g9 ia jf Hrgnc hU iU Hrgnb Hrgnxb iE iA iG iw iF ix iD iy iz iB iu ik it;obtain ⟨_,_,k3⟩:=hcrgn;obtain ⟨lv2,hst2⟩:=k3 (by kernel_rfl);have HEE:=aa (show LgAt w Ls (i+1) (.slice (some ⟨g,0,none⟩) (m+1) cap2) wrgn from by
            refine .inr ⟨Nat.succ_pos _,g,cap2,vs0,lv2,A,p++P,by rw [HM.out],hst2,?_⟩;rw [Nat.add_sub_cancel];show (if bj Ls i=true then ((ay Ls i).1,(ay Ls i).2++aQ Ls i) else ((ay Ls i).1++[(ay Ls i).2++aQ Ls i],[]))=_;rw [<-HK.out,<-HPP.out])
           clear k3 hst2;go_wp2
           go_roundw
           case rel=>exact ⟨i+1,by omega,by go_num,HEE⟩
           case measure=>simp [intOf] <;> omega
  ·obtain rfl:i=n:=by omega
   have d1:¬ (i:Int)<(i:Int):=by omega
   have d1b:decide ((i:Int)<(i:Int))=false:=ah (by omega);have HF:=aa (LgAt.end (show LgAt w Ls Ls.length u3 wo from by rw [<-HN.out];exact HST.out));clear iQ HST;go_wp2;go_ret;exact ⟨_,rfl,HF.out.1,HF.out.2⟩
end Go.Proofs.YthdphijabffpiaaDoor
