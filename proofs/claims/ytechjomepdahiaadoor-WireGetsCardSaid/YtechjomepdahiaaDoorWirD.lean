import Derived.Test.YtechjomepdahiaaDoorZ0
import Derived.Test.YtechjomepdahiaaDoorWirC
set_option maxRecDepth 100000
set_option linter.unusedVariables false
set_option linter.unusedSimpArgs false
set_option maxHeartbeats 4000000
namespace Go.Proofs.YtechjomepdahiaaDoor
open Go.RowKit Go.ChangeShapes Go.WideShapes
def jB(w:World)(L:List Int)(e:Ending)(w':World):Prop:=∃ v',e=.returned (.tuple #[v',.int .i64 (-1)])/\BOwn w' w.heap.size v' L/\Below w.heap.size w w'
theorem jC(v:Value)(xs:List Int)(w:World)(hh:Held .i32 w v xs)(ll:∀ i,i<xs.length->aj (xs.getD i 0)=true)(hlen:xs.length<=1000000000) :
  Calls Tryd.prog 93 #[v] w (jB w (xs.flatMap av)):=by
 obtain ⟨ao,cap,rfl,hc⟩:=hh.view;have HC:=aa hc;have HV:=aa ll;clear hc ll hh
 go_enter Tryd.func93,Tryd.ntmps93
 go_wp2
 go_loopw [5,4] (fun i v wr=>∃ k:Nat,k<=xs.length/\i=.int .i64 k/\fm w xs k v wr) (fun i _ _=>xs.length - (intOf i).toNat)
 case atStart=>exact ⟨0,Nat.zero_le _,rfl,World.ownsRow_nil _ _ _ _,Below.refl _ _⟩
 case round =>
  obtain ⟨m,hm,rfl,hrel⟩:=hrel
  by_cases hlm:m<xs.length
  ·obtain ⟨b,off,rfl,hb,kE⟩:=HC.out m hlm;have nF:=HV.out m hlm;obtain ⟨x,hx⟩:=ab (xs.getD m 0);rw [<-hx] at kE nF;have kE:=(hrel.2.cell (p:=⟨b,off+m,none⟩) hb).trans kE;have HX:=aa hx;have HV:=aa nF;clear hx nF;have hle:=fY xs m
   go_wp2_with fail
   refine (bL _ _).mono ?_;rintro e w' ⟨rfl,rfl⟩;rw [HV.out]
   go_wp2_with fail
   refine (fG _ _).mono ?_;rintro e w1 ⟨v1,rfl,j2,hb1⟩;have kM:=dE x;have hown1:=hrel.1;have hown2:=bs hown1 hb1
   go_wp2_with (at_builtin;refine dc w1 rfl (.tmp 19) (.tmp 24) 46 rfl w.heap.size 5 (.int .u8 0) 1 Tryd.underlying46 Tryd.info5 rfl .u8 _ (dR xs m).length (dR xs m) rfl hown2 v1 (av x) rfl j2 (by omega) (by omega) (Nat.le_trans hrel.2.size hb1.size) ?_)
   intro v2 w2 kS hb2;have og:fm w xs (m+1) v2 w2:=by
    rw [HX.out] at kS;refine ⟨?_,(hrel.2.trans (hb1.mono hrel.2.size)).trans hb2⟩;rw [eU xs m hlm,List.length_append,List.map_append];exact kS
   clear hown1 hown2 kS hb1 hb2 hrel kE j2;go_wp2
   go_roundw
   case rel=>exact ⟨m+1,by omega,by go_num,og⟩
   case measure=>simp [intOf];omega
  ·go_wp2
   go_ret2
   have oH:m=xs.length:=by omega
   subst oH;have:=dG (Z:=fun _=>True) hrel.1;exact ⟨_,rfl,by simpa [dR] using this,hrel.2⟩
theorem jQ(x:Int)(bl:Bool):((x == 0) == bl)=((x != 0) == !bl):=by
 show _=((!(x == 0)) == !bl)
 cases (x == 0) <;> cases bl <;> rfl
theorem jD(K:Int)(h:true=(K == 1 || K == 2)):∃ f:Nat,f<=1/\K=1+(f:Int)/\f=(if K=2 then 1 else 0):=by
 have h:=h.symm;rw [Bool.or_eq_true,beq_iff_eq,beq_iff_eq] at h
 rcases h with rfl | rfl
 ·exact ⟨0,by omega,by omega,rfl⟩
 ·exact ⟨1,by omega,by omega,rfl⟩
theorem iu(Zc:ak)(cv:Value)(L:List Cl)(w:World)(lX:L.length<=1000000)(hs:∀ c ∈ L,al c=true)(hc:HeldE cellE Zc w cv L):Calls Tryd.prog 59 #[cv] w (gF w (aD L)):=by
 obtain ⟨co,cc,rfl⟩:=hc.len;have kT:=(bg hc).2.1;have qk:=cf L.length L (Nat.le_refl _) lX hs;have tB:=aa (show (aD L).length<=70000000 from by omega);have rg:=aa (bg hc.lower).2.2;have rU:=aa (show ∀ i,i<L.length->al (L.getD i zc)=true from fun i hi=>hs _ (by rw [show L.getD i zc=L[i] from by simp [List.getD,List.getElem?_eq_getElem hi]];exact List.getElem_mem hi));obtain ⟨n,hn⟩:=ab (L.length);have HN:=aa hn;rw [<-hn] at kT lX ⊢;clear qk hc hs hn
 go_enter Tryd.func59,Tryd.ntmps59
 go_wp2
 go_loopw [3,4] (fun ov iv wr=>∃ (i:Nat) (pre:List Int),iv=.int .i64 (i:Int)/\i<=n/\Hid (pre++aD (L.drop i)=aD L/\BOwn wr w.heap.size ov pre/\Below w.heap.size w wr)) (fun _ iv _=>n - (intOf iv).toNat)
 case atStart=>exact ⟨0,[],rfl,Nat.zero_le _,aa ⟨by rw [List.drop_zero,List.nil_append],OwnE.nil _ _ _ _ _,Below.refl _ _⟩⟩
 case round =>
  obtain ⟨i,pre,rfl,hi,HS⟩:=hrel;obtain ⟨wo,pj⟩:=ab (wr);subst pj
  by_cases kZ:i<n
  ·have d1:(i:Int)<(n:Int):=by omega
   have d1b:decide ((i:Int)<(n:Int))=true:=ag (by omega);have mu:i<L.length:=by rw [<-HN.out];exact kZ
   obtain ⟨b,off,tv,e0,hb,_,c0,c1,hh⟩:=rg.out i mu;subst e0;have hb0:=hb;have c0:=(HS.out.2.2.cell (p:=⟨b,off+i * 2,none⟩) hb).trans c0;obtain ⟨K,hK⟩:=ab ((L.getD i zc).1);rw [<-hK] at c0;obtain ⟨bl,hbl⟩:=ab (blk (L.getD i zc));have t6:(K == 0)=bl:=by rw [hbl,hK];rfl
   have hKn:(K != 0) = !bl:=by rw [<-t6];rfl
   have ml:=aa (fq L i mu);have hr1:=bN bl L i mu;rw [<-hbl] at ml;rw [<-hbl,if_pos rfl] at hr1;obtain ⟨k,hk⟩:=ab (aC bl (L.drop (i+1)));rw [<-hk] at ml hr1;have uS:i+(k+1)<=n:=by
    have:=cU bl (L.drop (i+1));rw [List.length_drop,<-hk,<-HN.out] at this;omega
   have o9:=aa hr1;have hic:i<cc:=by omega
   obtain ⟨fl,kM⟩ : ∃ fl:Nat,fl=(if bl=true then 0 else 1):=⟨_,rfl⟩;have mn:=aa kM;have nA:fl<=1:=by rw [kM];split <;> omega
   rw [<-kM] at ml;clear hK hbl hb c1 hh hr1 hk t6 kM
   go_upto_if 20 with (fail)
   go_cut [6] from 20 to 20 (fun kv wx=>kv=.int .i64 (fl:Int)/\wx=wo)
   case first =>
    have e:=mn.out
    cases bl with
    |true =>
     rw [if_pos rfl] at e;subst e;clear mn;go_wp2;go_meet
     case rel=>exact ⟨rfl,rfl⟩
    |false =>
     rw [if_neg (by decide)] at e;subst e;clear mn;go_wp2;go_meet
     case rel=>exact ⟨rfl,rfl⟩
   case rest =>
    obtain ⟨rfl,rfl⟩:=hcut;obtain ⟨wq,lR⟩:=ab (wc);subst lR;clear c0;have hqsz:=HS.out.2.2.size;go_wp2
    go_loopw [5,7] (fun tv nv wr=>∃ (t:Nat) (md:List Int),tv=.int .i64 (t:Int)/\i<=t/\t<=n/\Hid (k+1=(t - i)+aC bl (L.drop t)/\md=((L.drop i).take (t - i)).flatMap clB/\BOwn wr wq.heap.size nv md/\Below wq.heap.size wq wr)) (fun tv _ _=>n - (intOf tv).toNat)
    case atStart=>exact ⟨i,[],rfl,Nat.le_refl _,by omega,aa ⟨by rw [o9.out];omega,by simp,OwnE.nil _ _ _ _ _,Below.refl _ _⟩⟩
    case round =>
     obtain ⟨t,md,rfl,ht1,sw,HT⟩:=hrel;obtain ⟨wp,qR⟩:=ab (wr);subst qR;obtain ⟨tt,nn⟩:=ab ((decide (t<n) && (blk (L.getD t zc) == bl)));have j9:=aa nn;have pC:=aa (HS.out.2.2.trans (HT.out.2.2.2.mono hqsz));have hfk:((fl:Int) == 1) = !bl:=by
      have e:=mn.out
      cases bl with
      |true=>rw [if_pos rfl] at e;rw [e];rfl
      |false=>rw [if_neg (by decide)] at e;rw [e];rfl
     clear nn o9
     go_upto_region 9 with (fail)
     go_cut [35] from 21 to 35 (fun tv wx=>tv=.bool tt/\wx=wp)
     case first =>
      by_cases htn:t<n
      ·have d3:decide ((t:Int)<(n:Int))=true:=ag (by omega);have d3n:decide (t<n)=true:=ag (by omega);have d4:(t:Int)<(n:Int):=by omega
       obtain ⟨b2,off2,tv2,e2,hb2,_,y0,y1,lW⟩:=rg.out t (by rw [<-HN.out];exact htn)
       cases e2
       have y0:=(pC.out.cell (p:=⟨b,off+t * 2,none⟩) hb2).trans y0;obtain ⟨K2,hK2⟩:=ab ((L.getD t zc).1);obtain ⟨nb,rc⟩:=ab ((K2 != 0));have e:tt=(nb == !bl):=by rw [j9.out,d3n,rc,hK2,Bool.true_and];exact jQ _ _
       have hnb2:(K2 != 0)=nb:=rc.symm;rw [<-hK2] at y0;have htc:t<cc:=by omega
       subst e;clear j9 y1 lW hb2 hK2 htn rc;go_wp2;go_meet
       case rel=>exact ⟨by first | rfl | (congr 1;simp),rfl⟩
      ·have nV:t=n:=by omega
       have d3:decide ((t:Int)<(n:Int))=false:=ah (by omega);have d4:¬ (t:Int)<(n:Int):=by omega
       have e:tt=false:=by rw [j9.out,nV,decide_eq_false (Nat.lt_irrefl _)];rfl
       subst e;clear j9 nV htn;go_wp2;go_meet
       case rel=>exact ⟨rfl,rfl⟩
     case rest =>
      obtain ⟨rfl,rfl⟩:=hcut;obtain ⟨wt,hwt⟩:=ab (wc);subst hwt
      cases tt with
      |true =>
       have e:=j9.out.symm;rw [Bool.and_eq_true,decide_eq_true_eq,beq_iff_eq] at e;have htN:=e.1;have tk:t<L.length:=by rw [<-HN.out];exact htN
       have o1:=aa (show k+1=(t+1 - i)+aC bl (L.drop (t+1)) from by
        have h1:=HT.out.1;rw [bN bl L t tk,if_pos e.2] at h1;omega)
       have qB:=aa (show md++clB (L.getD t zc)=((L.drop i).take (t+1 - i)).flatMap clB from by
        have h9:t - i<(L.drop i).length:=by rw [List.length_drop];omega
        rw [HT.out.2.1,show t+1 - i=(t - i)+1 by omega,List.take_succ_eq_append_getElem h9,List.flatMap_append,List.flatMap_singleton,List.getElem_drop]
        congr 2
        rw [show L.getD t zc=L[t] from by simp [List.getD,List.getElem?_eq_getElem tk]]
        congr 1
        omega)
       have na:=rU.out t tk;obtain ⟨r1,r2,r3⟩:=dz na;have lj:=cS na;obtain ⟨b2,off2,tv2,e2,hb2,_,y0,y1,lW⟩:=rg.out t tk
       cases e2
       have y0:=(pC.out.cell (p:=⟨b,off+t * 2,none⟩) hb2).trans y0;have y1:=(pC.out.cell (p:=⟨b,off+t * 2+1,none⟩) hb2).trans y1;obtain ⟨⟨K2,T2⟩,hKT2⟩ : ∃ y,y=L.getD t zc:=⟨_,rfl⟩;rw [<-hKT2] at y0 lW na r1 r2 r3 lj qB;simp only at y0 lW r1 r2 r3;have hmdl:md.length<=70000000:=by
        have h1:md.length<=67 * (t - i):=by
         rw [HT.out.2.1];have:∀ (M:List Cl),(∀ d ∈ M,al d=true)->(M.flatMap clB).length<=67 * M.length:=by
          intro M
          induction M with
          |nil=>intro _;simp
          |cons d M ih =>
           intro hd;rw [List.flatMap_cons,List.length_append,List.length_cons];have:=cS (hd d (List.mem_cons_self ..));have:=ih (fun e he=>hd e (List.mem_cons_of_mem _ he));omega
         refine Nat.le_trans (this _ (fun d hd=>?_)) ?_
         ·obtain ⟨q,hq,rfl⟩:=List.getElem_of_mem (List.mem_of_mem_drop (List.mem_of_mem_take hd));have:=rU.out q hq;rw [show L.getD q zc=L[q] from by simp [List.getD,List.getElem?_eq_getElem hq]] at this;exact this
         ·rw [List.length_take];exact Nat.mul_le_mul_left _ (Nat.min_le_left _ _)
        omega
       have htc:t<cc:=by omega
       have qz:=aa HT.out.2.2.1;have pw:=aa HT.out.2.2.2;clear e j9 HT hKT2 hb2;obtain ⟨kk,oH⟩:=ab ((K2 == 1 || K2 == 2));have pr:=aa oH;clear oH
       go_upto_region 10 with (fail)
       go_cut [49] from 36 to 49 (fun tv wx=>tv=.bool kk/\wx=wt)
       case first =>
        by_cases h1:K2=1
        ·subst h1;have e:kk=true:=pr.out;subst e;clear pr;go_wp2;go_meet
         case rel=>exact ⟨rfl,rfl⟩
        ·have h1b:(K2 == 1)=false:=beq_eq_false_iff_ne.2 h1;have e:kk=(K2 == 2):=by rw [pr.out,h1b];rfl
         subst e;clear pr h1;go_wp2;go_meet
         case rel=>exact ⟨rfl,rfl⟩
       case rest =>
        obtain ⟨rfl,rfl⟩:=hcut;obtain ⟨wu,hwu⟩:=ab (wc);subst hwu
        cases kk with
        |false =>
         have sX:T2.length=0:=by
          rcases Nat.eq_zero_or_pos T2.length with h | h
          ·exact h
          ·exfalso;have:=pr.out
           rcases r3 h with e | e <;> rw [e] at this <;> exact absurd this (by decide)
         have HF:=aa (show k+1=(t+1 - i)+aC bl (L.drop (t+1))/\md=((L.drop i).take (t+1 - i)).flatMap clB/\BOwn wu wq.heap.size u7 md/\Below wq.heap.size wq wu from ⟨o1.out,by rw [<-qB.out];unfold clB;rw [if_pos sX,List.append_nil],qz.out,pw.out⟩);clear sX o1 qB qz pw r1 r2 r3 na lW y0 y1;go_wp2
         go_roundw
         case rel=>exact ⟨t+1,md,by go_num,by omega,by omega,HF⟩
         case measure=>simp [intOf] <;> omega
        |true =>
         have sX:0<T2.length:=by
          rcases Nat.eq_zero_or_pos T2.length with h | h
          ·exfalso;have h1:=na;unfold al at h1;have h2:=pr.out.symm;rw [Bool.or_eq_true,beq_iff_eq,beq_iff_eq] at h2
           rcases h2 with rfl | rfl
           ·simp [h] at h1
           ·simp [h] at h1
          ·exact h
         obtain ⟨f2,hf1,hf2,hf3⟩:=jD K2 pr.out;obtain ⟨F,hF⟩:=ab (T2.flatMap av);have hfl2:F.length<=64:=by rw [hF];have:=dI T2;omega
         have mv:=aa (show clB (K2,T2)=aA (2 * F.length+f2)++F from by unfold clB;rw [if_neg (show ¬ T2.length=0 by omega),<-hF,<-hf3]);have ue:=aa (jC tv2 T2 wu ((lW.below pC.out).ints) r1 (by omega));rw [<-hF] at ue;obtain ⟨ta2,tc2,et2⟩:=lW.len;subst et2;subst hf2;clear sX r1 r2 r3 na lW hf3 hF pr
         go_wp2_with fail
         refine ue.out.mono ?_;rintro e w3 ⟨fv,rfl,mD,b3⟩;have qi:=mD.held (Z:=fun x=>wu.heap.size<=x) (fun x h _=>h);obtain ⟨fo,fc,efv⟩:=qi.len;obtain ⟨nf,qD⟩:=ab (F.length);rw [<-qD] at efv hfl2 mv;subst efv;have HFH:=aa qi;have rS:=aa qD;have nD:=aa (fun x (e:u7.ownBlock=some x)=>(qz.out.lt x e).2);have tO:=aa (qz.out.below b3);have me:=aa (pw.out.trans (b3.mono pw.out.size));have lU:=aa b3;have y0:=(b3.cell (p:=⟨b,off+t * 2,none⟩) (Nat.lt_of_lt_of_le hb0 (Nat.le_trans hqsz pw.out.size))).trans y0;have hw1:IntKind.i64.wrap (2 * (nf:Int))=((2 * nf:Nat):Int):=by rw [IntKind.wrap_i64];omega
         have hw2:IntKind.i64.wrap (((2 * nf:Nat):Int)+(1+(f2:Int)))=((2 * nf+f2+1:Nat):Int):=by rw [IntKind.wrap_i64];omega
         have hw3:IntKind.i64.wrap (((2 * nf+f2+1:Nat):Int) - 1)=((2 * nf+f2:Nat):Int):=by rw [IntKind.wrap_i64];omega
         have mi:=aa (ch (2 * nf+f2) (by omega) w3);obtain ⟨NL,nZ⟩:=ab (aA (2 * nf+f2));have ky:=(aE (show 2 * nf+f2<2097152 by omega)).2;rw [<-nZ] at mi mv ky;clear qi mD b3 qD nZ ue qz pw
         go_wp2_with fail
         rw [show (2 * (nf:Int)+(1+(f2:Int)) - 1)=((2 * nf+f2:Nat):Int) from by omega];refine mi.out.mono ?_;rintro e w4 ⟨v4,rfl,kL,b4⟩;have HM4:=aa (tO.out.below b4);have rH:=aa (kL.held (Z:=fun x=>w3.heap.size<=x) (fun x h _=>h));have ri:=aa (Stp.bel (B:=wq.heap.size) (v:=u7) b4 me.out.size);have pR:=aa (Nat.le_trans me.out.size b4.size);have tj:=aa (fun x (e:u7.ownBlock=some x)=>tO.out.lt x e);have HZU:=aa (fun x (e:u7.ownBlock=some x)=>Nat.lt_of_lt_of_le (nD.out x e) (Nat.le_refl _));clear kL b4 mi y0 y1 tO
         go_wp2_with (at_builtin;refine ba (Z:=fun x=>w3.heap.size<=x) rfl (.tmp 59) (.tmp 70) 46 rfl Tryd.underlying46 rfl rfl HM4.out rH.out (fun x hx e=>by have:=(tj.out x e).2;omega) (by omega) pR.out ?_)
         intro v5 w5 kH s5;have o6:=aa (ri.out.trans s5);have HF5:=aa (o6.out.held HFH.out (fun x hx e=>by have:=HZU.out x e;omega));obtain ⟨MS,td⟩:=ab (md++NL);have hml:MS.length<=70000003:=by rw [td,List.length_append];omega
         rw [<-td] at kH;have ot:=aa kH;have HE5:=aa (show MS++F=((L.drop i).take (t+1 - i)).flatMap clB from by rw [<-qB.out,mv.out,td,List.append_assoc]);have mF:=aa (Nat.le_trans me.out.size o6.out.1.size);clear kH s5 td
         go_wp2_with (at_builtin;refine ba (Z:=fun x=>wu.heap.size<=x/\v5.ownBlock≠some x) rfl (.tmp 72) (.tmp 73) 46 rfl Tryd.underlying46 rfl rfl ot.out HF5.out (fun x hx=>hx.2) (by have:=rS.out;omega) mF.out ?_)
         intro v6 w6 ni s6;have HF:=aa (show k+1=(t+1 - i)+aC bl (L.drop (t+1))/\MS++F=((L.drop i).take (t+1 - i)).flatMap clB/\BOwn w6 wq.heap.size v6 (MS++F)/\Below wq.heap.size wq w6 from ⟨o1.out,HE5.out,ni,me.out.trans (o6.out.trans s6).1⟩);clear ni s6;go_wp2
         go_roundw
         case rel=>exact ⟨t+1,MS++F,by go_num,by omega,by omega,HF⟩
         case measure=>simp [intOf] <;> omega
      |false =>
       have o3:t=i+(k+1):=by
        have h1:=HT.out.1;have h2:aC bl (L.drop t)=0:=by
         rcases Nat.lt_or_ge t n with h | h
         ·have e:=j9.out;rw [decide_eq_true h,Bool.true_and] at e;rw [bN bl L t (by rw [<-HN.out];exact h),if_neg (beq_eq_false_iff_ne.1 e.symm)]
         ·rw [List.drop_of_length_le (by rw [<-HN.out];exact h)];rfl
        omega
       obtain ⟨m,hm⟩:=ab (k+1);rw [<-hm] at ml o3 uS;have sK:1<=m:=by omega
       have qB:=aa (show md=((L.drop i).take m).flatMap clB from by rw [HT.out.2.1,show t - i=m by omega]);have qz:=aa HT.out.2.2.1;have pw:=aa HT.out.2.2.2;have rB:=aa (show t=i+m from o3);have hpml:pre.length+md.length<=70000000:=by
        have h1:=congrArg List.length HS.out.1;have h2:=congrArg List.length ml.out;rw [List.length_append] at h1;rw [List.length_append,List.length_append] at h2;have:=tB.out;rw [qB.out];omega
       have o5:IntKind.i64.wrap ((t:Int) - (i:Int))=(m:Int):=by rw [IntKind.wrap_i64];omega
       have hwm2:IntKind.i64.wrap (2 * (m:Int))=((2 * m:Nat):Int):=by rw [IntKind.wrap_i64];omega
       have vk:IntKind.i64.wrap (((2 * m:Nat):Int)+(fl:Int))=((2 * m+fl:Nat):Int):=by rw [IntKind.wrap_i64];omega
       have mi:=aa (ch (2 * m+fl) (by omega) wt);obtain ⟨NL,nZ⟩:=ab (aA (2 * m+fl));have ky:=(aE (show 2 * m+fl<2097152 by omega)).2;rw [<-nZ] at mi ml ky;have HOU:=aa (show BOwn wt w.heap.size u3 pre from HS.out.2.1.below HT.out.2.2.2);have HUL:=aa (fun x (e:u3.ownBlock=some x)=>(HS.out.2.1.lt x e).2);have HPR:=aa (show (pre++NL)++md++aD (L.drop (i+m))=aD L from by rw [<-HS.out.1,ml.out,qB.out];simp only [List.append_assoc]);have htm:(t:Int) - (i:Int)=(m:Int):=by omega
       clear o3 hm HT j9 nZ ml HS mn
       go_wp2_with fail
       rw [show (2 * (m:Int)+(fl:Int))=((2 * m+fl:Nat):Int) from by omega];refine mi.out.mono ?_;rintro e w4 ⟨v4,rfl,kL,b4⟩;have my:=aa (HOU.out.below b4);have rH:=aa (kL.held (Z:=fun x=>wt.heap.size<=x) (fun x h _=>h));have ri:=aa (Stp.bel (B:=w.heap.size) (v:=u3) b4 pC.out.size);have pR:=aa (Nat.le_trans pC.out.size b4.size);have HWT:=aa pw.out.size;clear kL b4 mi htm
       go_wp2_with (at_builtin;refine ba (Z:=fun x=>wt.heap.size<=x) rfl (.tmp 77) (.tmp 84) 46 rfl Tryd.underlying46 rfl rfl my.out rH.out (fun x hx e=>by have:=HUL.out x e;have:=HWT.out;omega) (by omega) pR.out ?_)
       intro v5 w5 kH s5;have o6:=aa (ri.out.trans s5);have uN:=aa (o6.out.held (qz.out.held (Z:=fun x=>wq.heap.size<=x) (fun x h _=>h)) (fun x hx e=>by have:=HUL.out x e;omega));obtain ⟨PS,vi⟩:=ab (pre++NL);have hpl:PS.length+md.length<=70000003:=by rw [vi,List.length_append];omega
       rw [<-vi] at kH HPR;have ot:=aa kH;have mF:=aa (Nat.le_trans pC.out.size o6.out.1.size);clear kH s5 vi
       go_wp2_with (at_builtin;refine ba (Z:=fun x=>wq.heap.size<=x/\v5.ownBlock≠some x) rfl (.tmp 86) (.tmp 87) 46 rfl Tryd.underlying46 rfl rfl ot.out uN.out (fun x hx=>hx.2) (by omega) mF.out ?_)
       intro v6 w6 ni s6;have HF:=aa (show (PS++md)++aD (L.drop t)=aD L/\BOwn w6 w.heap.size v6 (PS++md)/\Below w.heap.size w w6 from ⟨by rw [rB.out];exact HPR.out,ni,pC.out.trans (o6.out.trans s6).1⟩);have hti:i<t:=by rw [rB.out];omega
       clear ni s6;go_wp2
       go_roundw
       case rel=>exact ⟨t,PS++md,by go_num,by omega,HF⟩
       case measure=>simp [intOf] <;> omega
  ·obtain rfl:i=n:=by omega
   have d1:¬ (i:Int)<(i:Int):=by omega
   have d1b:decide ((i:Int)<(i:Int))=false:=ah (by omega);have HF:=aa (show BOwn wo w.heap.size u3 (aD L)/\Below w.heap.size w wo from by
    have h1:=HS.out.1;rw [List.drop_of_length_le (by rw [<-HN.out];exact Nat.le_refl _),ci,List.append_nil] at h1;rw [<-h1];exact HS.out.2)
   clear kZ HS;go_wp2;go_ret;exact ⟨_,rfl,HF.out.1,HF.out.2⟩
end Go.Proofs.YtechjomepdahiaaDoor
