import Derived.Test.YtechjomepdahiaaDoorZ0
import Derived.Test.YtechjomepdahiaaDoorWirC
set_option maxRecDepth 100000
set_option linter.unusedVariables false
set_option linter.unusedSimpArgs false
set_option maxHeartbeats 4000000
namespace Go.Proofs.YtechjomepdahiaaDoor
open Go.RowKit Go.ChangeShapes Go.WideShapes
def lz(w:World)(L:List Int)(e:Ending)(w':World):Prop:=∃ v',e=.returned (.tuple #[v',.int .i64 (-1)])/\BOwn w' w.heap.size v' L/\Below w.heap.size w w'
theorem lA(v:Value)(xs:List Int)(w:World)(hh:Held .i32 w v xs)(n7:∀ i,i<xs.length->ai (xs.getD i 0)=true)(hlen:xs.length<=1000000000) :
  Calls Tryd.prog 93 #[v] w (lz w (xs.flatMap aj)):=by
 obtain ⟨ao,cap,rfl,hc⟩:=hh.view;have HC:=aa hc;have HV:=aa n7;clear hc n7 hh
 go_enter Tryd.func93,Tryd.ntmps93
 go_wp2
 go_loopw [5,4] (fun i v wr=>∃ k:Nat,k<=xs.length/\i=.int .i64 k/\gA w xs k v wr) (fun i _ _=>xs.length - (intOf i).toNat)
 case atStart=>exact ⟨0,Nat.zero_le _,rfl,World.ownsRow_nil _ _ _ _,Below.refl _ _⟩
 case round =>
  obtain ⟨m,hm,rfl,hrel⟩:=hrel
  by_cases rR:m<xs.length
  ·obtain ⟨b,off,rfl,hb,mx⟩:=HC.out m rR;have pP:=HV.out m rR;obtain ⟨x,hx⟩:=ab (xs.getD m 0);rw [<-hx] at mx pP;have mx:=(hrel.2.cell (p:=⟨b,off+m,none⟩) hb).trans mx;have HX:=aa hx;have HV:=aa pP;clear hx pP;have hle:=iq xs m
   go_wp2_with fail
   refine (bT _ _).mono ?_;rintro e w' ⟨rfl,rfl⟩;rw [HV.out]
   go_wp2_with fail
   refine (gY _ _).mono ?_;rintro e w1 ⟨v1,rfl,l8,hb1⟩;have mD:=eg x;have hown1:=hrel.1;have hown2:=bI hown1 hb1
   go_wp2_with (at_builtin;refine dB w1 rfl (.tmp 19) (.tmp 24) 46 rfl w.heap.size 5 (.int .u8 0) 1 Tryd.underlying46 Tryd.info5 rfl .u8 _ (eD xs m).length (eD xs m) rfl hown2 v1 (aj x) rfl l8 (by omega) (by omega) (Nat.le_trans hrel.2.size hb1.size) ?_)
   intro v2 w2 m4 hb2;have qg:gA w xs (m+1) v2 w2:=by
    rw [HX.out] at m4;refine ⟨?_,(hrel.2.trans (hb1.mono hrel.2.size)).trans hb2⟩;rw [fT xs m rR,List.length_append,List.map_append];exact m4
   clear hown1 hown2 m4 hb1 hb2 hrel mx l8;go_wp2
   go_roundw
   case rel=>exact ⟨m+1,by omega,by go_num,qg⟩
   case measure=>simp [intOf];omega
  ·go_wp2
   go_ret2
   have ph:m=xs.length:=by omega
   subst ph;have:=ei (Z:=fun _=>True) hrel.1;exact ⟨_,rfl,by simpa [eD] using this,hrel.2⟩
theorem lR(x:Int)(bl:Bool):((x == 0) == bl)=((x != 0) == !bl):=by
 show _=((!(x == 0)) == !bl)
 cases (x == 0) <;> cases bl <;> rfl
theorem lB(K:Int)(h:true=(K == 1 || K == 2)):∃ f:Nat,f<=1/\K=1+(f:Int)/\f=(if K=2 then 1 else 0):=by
 have h:=h.symm;rw [Bool.or_eq_true,beq_iff_eq,beq_iff_eq] at h
 rcases h with rfl | rfl
 ·exact ⟨0,by omega,by omega,rfl⟩
 ·exact ⟨1,by omega,by omega,rfl⟩
theorem j1(Zc:an)(cv:Value)(L:List Cl)(w:World)(ol:L.length<=1000000)(hs:∀ c ∈ L,am c=true)(hc:HeldE cellE Zc w cv L):Calls Tryd.prog 59 #[cv] w (je w (aF L)):=by
 obtain ⟨co,cc,rfl⟩:=hc.len;have m8:=(aW hc).2.1;have th:=bV L.length L (Nat.le_refl _) ol hs;have v8:=aa (show (aF L).length<=70000000 from by omega);have ut:=aa (aW hc.lower).2.2;have uz:=aa (show ∀ i,i<L.length->am (L.getD i zc)=true from fun i hi=>hs _ (by rw [show L.getD i zc=L[i] from by simp [List.getD,List.getElem?_eq_getElem hi]];exact List.getElem_mem hi));obtain ⟨n,hn⟩:=ab (L.length);have HN:=aa hn;rw [<-hn] at m8 ol ⊢;clear th hc hs hn
 go_enter Tryd.func59,Tryd.ntmps59
 go_wp2
 go_loopw [3,4] (fun ov iv wr=>∃ (i:Nat) (pre:List Int),iv=.int .i64 (i:Int)/\i<=n/\Hid (pre++aF (L.drop i)=aF L/\BOwn wr w.heap.size ov pre/\Below w.heap.size w wr)) (fun _ iv _=>n - (intOf iv).toNat)
 case atStart=>exact ⟨0,[],rfl,Nat.zero_le _,aa ⟨by rw [List.drop_zero,List.nil_append],OwnE.nil _ _ _ _ _,Below.refl _ _⟩⟩
 case round =>
  obtain ⟨i,pre,rfl,hi,HS⟩:=hrel;obtain ⟨wo,ro⟩:=ab (wr);subst ro
  by_cases mS:i<n
  ·have d1:(i:Int)<(n:Int):=by omega
   have d1b:decide ((i:Int)<(n:Int))=true:=ag (by omega);have oV:i<L.length:=by rw [<-HN.out];exact mS
   obtain ⟨b,off,tv,e0,hb,_,c0,c1,hh⟩:=ut.out i oV;subst e0;have hb0:=hb;have c0:=(HS.out.2.2.cell (p:=⟨b,off+i * 2,none⟩) hb).trans c0;obtain ⟨K,hK⟩:=ab ((L.getD i zc).1);rw [<-hK] at c0;obtain ⟨bl,hbl⟩:=ab (blk (L.getD i zc));have xi:(K == 0)=bl:=by rw [hbl,hK];rfl
   have hKn:(K != 0) = !bl:=by rw [<-xi];rfl
   have oO:=aa (gG L i oV);have hr1:=bW bl L i oV;rw [<-hbl] at oO;rw [<-hbl,if_pos rfl] at hr1;obtain ⟨k,hk⟩:=ab (av bl (L.drop (i+1)));rw [<-hk] at oO hr1;have xB:i+(k+1)<=n:=by
    have:=bY bl (L.drop (i+1));rw [List.length_drop,<-hk,<-HN.out] at this;omega
   have qW:=aa hr1;have hic:i<cc:=by omega
   obtain ⟨fl,mD⟩ : ∃ fl:Nat,fl=(if bl=true then 0 else 1):=⟨_,rfl⟩;have oR:=aa mD;have pV:fl<=1:=by rw [mD];split <;> omega
   rw [<-mD] at oO;clear hK hbl hb c1 hh hr1 hk xi mD
   go_upto_if 20 with (fail)
   go_cut [6] from 20 to 20 (fun kv wx=>kv=.int .i64 (fl:Int)/\wx=wo)
   case first =>
    have e:=oR.out
    cases bl with
    |true =>
     rw [if_pos rfl] at e;subst e;clear oR;go_wp2;go_meet
     case rel=>exact ⟨rfl,rfl⟩
    |false =>
     rw [if_neg (by decide)] at e;subst e;clear oR;go_wp2;go_meet
     case rel=>exact ⟨rfl,rfl⟩
   case rest =>
    obtain ⟨rfl,rfl⟩:=hcut;obtain ⟨wq,oe⟩:=ab (wc);subst oe;clear c0;have hqsz:=HS.out.2.2.size;go_wp2
    go_loopw [5,7] (fun tv nv wr=>∃ (t:Nat) (md:List Int),tv=.int .i64 (t:Int)/\i<=t/\t<=n/\Hid (k+1=(t - i)+av bl (L.drop t)/\md=((L.drop i).take (t - i)).flatMap clB/\BOwn wr wq.heap.size nv md/\Below wq.heap.size wq wr)) (fun tv _ _=>n - (intOf tv).toNat)
    case atStart=>exact ⟨i,[],rfl,Nat.le_refl _,by omega,aa ⟨by rw [qW.out];omega,by simp,OwnE.nil _ _ _ _ _,Below.refl _ _⟩⟩
    case round =>
     obtain ⟨t,md,rfl,ht1,vu,HT⟩:=hrel;obtain ⟨wp,tr⟩:=ab (wr);subst tr;obtain ⟨tt,pC⟩:=ab ((decide (t<n) && (blk (L.getD t zc) == bl)));have mi:=aa pC;have r9:=aa (HS.out.2.2.trans (HT.out.2.2.2.mono hqsz));have hfk:((fl:Int) == 1) = !bl:=by
      have e:=oR.out
      cases bl with
      |true=>rw [if_pos rfl] at e;rw [e];rfl
      |false=>rw [if_neg (by decide)] at e;rw [e];rfl
     clear pC qW
     go_upto_region 9 with (fail)
     go_cut [35] from 21 to 35 (fun tv wx=>tv=.bool tt/\wx=wp)
     case first =>
      by_cases htn:t<n
      ·have d3:decide ((t:Int)<(n:Int))=true:=ag (by omega);have d3n:decide (t<n)=true:=ag (by omega);have d4:(t:Int)<(n:Int):=by omega
       obtain ⟨b2,off2,tv2,e2,hb2,_,y0,y1,mQ⟩:=ut.out t (by rw [<-HN.out];exact htn)
       cases e2
       have y0:=(r9.out.cell (p:=⟨b,off+t * 2,none⟩) hb2).trans y0;obtain ⟨K2,hK2⟩:=ab ((L.getD t zc).1);obtain ⟨nb,uu⟩:=ab ((K2 != 0));have e:tt=(nb == !bl):=by rw [mi.out,d3n,uu,hK2,Bool.true_and];exact lR _ _
       have hnb2:(K2 != 0)=nb:=uu.symm;rw [<-hK2] at y0;have htc:t<cc:=by omega
       subst e;clear mi y1 mQ hb2 hK2 htn uu;go_wp2;go_meet
       case rel=>exact ⟨by first | rfl | (congr 1;simp),rfl⟩
      ·have qh:t=n:=by omega
       have d3:decide ((t:Int)<(n:Int))=false:=ah (by omega);have d4:¬ (t:Int)<(n:Int):=by omega
       have e:tt=false:=by rw [mi.out,qh,decide_eq_false (Nat.lt_irrefl _)];rfl
       subst e;clear mi qh htn;go_wp2;go_meet
       case rel=>exact ⟨rfl,rfl⟩
     case rest =>
      obtain ⟨rfl,rfl⟩:=hcut;obtain ⟨wt,hwt⟩:=ab (wc);subst hwt
      cases tt with
      |true =>
       have e:=mi.out.symm;rw [Bool.and_eq_true,decide_eq_true_eq,beq_iff_eq] at e;have htN:=e.1;have vU:t<L.length:=by rw [<-HN.out];exact htN
       have qY:=aa (show k+1=(t+1 - i)+av bl (L.drop (t+1)) from by
        have h1:=HT.out.1;rw [bW bl L t vU,if_pos e.2] at h1;omega)
       have sg:=aa (show md++clB (L.getD t zc)=((L.drop i).take (t+1 - i)).flatMap clB from by
        have h9:t - i<(L.drop i).length:=by rw [List.length_drop];omega
        rw [HT.out.2.1,show t+1 - i=(t - i)+1 by omega,List.take_succ_eq_append_getElem h9,List.flatMap_append,List.flatMap_singleton,List.getElem_drop]
        congr 2
        rw [show L.getD t zc=L[t] from by simp [List.getD,List.getElem?_eq_getElem vU]]
        congr 1
        omega)
       have pL:=uz.out t vU;obtain ⟨r1,r2,r3⟩:=dZ pL;have nw:=di pL;obtain ⟨b2,off2,tv2,e2,hb2,_,y0,y1,mQ⟩:=ut.out t vU
       cases e2
       have y0:=(r9.out.cell (p:=⟨b,off+t * 2,none⟩) hb2).trans y0;have y1:=(r9.out.cell (p:=⟨b,off+t * 2+1,none⟩) hb2).trans y1;obtain ⟨⟨K2,T2⟩,hKT2⟩ : ∃ y,y=L.getD t zc:=⟨_,rfl⟩;rw [<-hKT2] at y0 mQ pL r1 r2 r3 nw sg;simp only at y0 mQ r1 r2 r3;have hmdl:md.length<=70000000:=by
        have h1:md.length<=67 * (t - i):=by
         rw [HT.out.2.1];have:∀ (M:List Cl),(∀ d ∈ M,am d=true)->(M.flatMap clB).length<=67 * M.length:=by
          intro M
          induction M with
          |nil=>intro _;simp
          |cons d M ih =>
           intro hd;rw [List.flatMap_cons,List.length_append,List.length_cons];have:=di (hd d (List.mem_cons_self ..));have:=ih (fun e he=>hd e (List.mem_cons_of_mem _ he));omega
         refine Nat.le_trans (this _ (fun d hd=>?_)) ?_
         ·obtain ⟨q,hq,rfl⟩:=List.getElem_of_mem (List.mem_of_mem_drop (List.mem_of_mem_take hd));have:=uz.out q hq;rw [show L.getD q zc=L[q] from by simp [List.getD,List.getElem?_eq_getElem hq]] at this;exact this
         ·rw [List.length_take];exact Nat.mul_le_mul_left _ (Nat.min_le_left _ _)
        omega
       have htc:t<cc:=by omega
       have sY:=aa HT.out.2.2.1;have rW:=aa HT.out.2.2.2;clear e mi HT hKT2 hb2;obtain ⟨kk,ph⟩:=ab ((K2 == 1 || K2 == 2));have rQ:=aa ph;clear ph
       go_upto_region 10 with (fail)
       go_cut [49] from 36 to 49 (fun tv wx=>tv=.bool kk/\wx=wt)
       case first =>
        by_cases h1:K2=1
        ·subst h1;have e:kk=true:=rQ.out;subst e;clear rQ;go_wp2;go_meet
         case rel=>exact ⟨rfl,rfl⟩
        ·have h1b:(K2 == 1)=false:=beq_eq_false_iff_ne.2 h1;have e:kk=(K2 == 2):=by rw [rQ.out,h1b];rfl
         subst e;clear rQ h1;go_wp2;go_meet
         case rel=>exact ⟨rfl,rfl⟩
       case rest =>
        obtain ⟨rfl,rfl⟩:=hcut;obtain ⟨wu,hwu⟩:=ab (wc);subst hwu
        cases kk with
        |false =>
         have vW:T2.length=0:=by
          rcases Nat.eq_zero_or_pos T2.length with h | h
          ·exact h
          ·exfalso;have:=rQ.out
           rcases r3 h with e | e <;> rw [e] at this <;> exact absurd this (by decide)
         have HF:=aa (show k+1=(t+1 - i)+av bl (L.drop (t+1))/\md=((L.drop i).take (t+1 - i)).flatMap clB/\BOwn wu wq.heap.size u7 md/\Below wq.heap.size wq wu from ⟨qY.out,by rw [<-sg.out];unfold clB;rw [if_pos vW,List.append_nil],sY.out,rW.out⟩);clear vW qY sg sY rW r1 r2 r3 pL mQ y0 y1;go_wp2
         go_roundw
         case rel=>exact ⟨t+1,md,by go_num,by omega,by omega,HF⟩
         case measure=>simp [intOf] <;> omega
        |true =>
         have vW:0<T2.length:=by
          rcases Nat.eq_zero_or_pos T2.length with h | h
          ·exfalso;have h1:=pL;unfold am at h1;have h2:=rQ.out.symm;rw [Bool.or_eq_true,beq_iff_eq,beq_iff_eq] at h2
           rcases h2 with rfl | rfl
           ·simp [h] at h1
           ·simp [h] at h1
          ·exact h
         obtain ⟨f2,hf1,hf2,hf3⟩:=lB K2 rQ.out;obtain ⟨F,hF⟩:=ab (T2.flatMap aj);have hfl2:F.length<=64:=by rw [hF];have:=du T2;omega
         have oU:=aa (show clB (K2,T2)=aA (2 * F.length+f2)++F from by unfold clB;rw [if_neg (show ¬ T2.length=0 by omega),<-hF,<-hf3]);have xD:=aa (lA tv2 T2 wu ((mQ.below r9.out).ints) r1 (by omega));rw [<-hF] at xD;obtain ⟨ta2,tc2,et2⟩:=mQ.len;subst et2;subst hf2;clear vW r1 r2 r3 pL mQ hf3 hF rQ
         go_wp2_with fail
         refine xD.out.mono ?_;rintro e w3 ⟨fv,rfl,oy,b3⟩;have su:=oy.held (Z:=fun x=>wu.heap.size<=x) (fun x h _=>h);obtain ⟨fo,fc,efv⟩:=su.len;obtain ⟨nf,sT⟩:=ab (F.length);rw [<-sT] at efv hfl2 oU;subst efv;have HFH:=aa su;have ux:=aa sT;have pU:=aa (fun x (e:u7.ownBlock=some x)=>(sY.out.lt x e).2);have xS:=aa (sY.out.below b3);have m5:=aa (rW.out.trans (b3.mono rW.out.size));have nn:=aa b3;have y0:=(b3.cell (p:=⟨b,off+t * 2,none⟩) (Nat.lt_of_lt_of_le hb0 (Nat.le_trans hqsz rW.out.size))).trans y0;have hw1:IntKind.i64.wrap (2 * (nf:Int))=((2 * nf:Nat):Int):=by rw [IntKind.wrap_i64];omega
         have hw2:IntKind.i64.wrap (((2 * nf:Nat):Int)+(1+(f2:Int)))=((2 * nf+f2+1:Nat):Int):=by rw [IntKind.wrap_i64];omega
         have hw3:IntKind.i64.wrap (((2 * nf+f2+1:Nat):Int) - 1)=((2 * nf+f2:Nat):Int):=by rw [IntKind.wrap_i64];omega
         have oM:=aa (cx (2 * nf+f2) (by omega) w3);obtain ⟨NL,qs⟩:=ab (aA (2 * nf+f2));have mA:=(aD (show 2 * nf+f2<2097152 by omega)).2;rw [<-qs] at oM oU mA;clear su oy b3 sT qs xD sY rW
         go_wp2_with fail
         rw [show (2 * (nf:Int)+(1+(f2:Int)) - 1)=((2 * nf+f2:Nat):Int) from by omega];refine oM.out.mono ?_;rintro e w4 ⟨v4,rfl,mY,b4⟩;have HM4:=aa (xS.out.below b4);have tO:=aa (mY.held (Z:=fun x=>w3.heap.size<=x) (fun x h _=>h));have uv:=aa (Stp.bel (B:=wq.heap.size) (v:=u7) b4 m5.out.size);have tk:=aa (Nat.le_trans m5.out.size b4.size);have wC:=aa (fun x (e:u7.ownBlock=some x)=>xS.out.lt x e);have HZU:=aa (fun x (e:u7.ownBlock=some x)=>Nat.lt_of_lt_of_le (pU.out x e) (Nat.le_refl _));clear mY b4 oM y0 y1 xS
         go_wp2_with (at_builtin;refine bq (Z:=fun x=>w3.heap.size<=x) rfl (.tmp 59) (.tmp 70) 46 rfl Tryd.underlying46 rfl rfl HM4.out tO.out (fun x hx e=>by have:=(wC.out x e).2;omega) (by omega) tk.out ?_)
         intro v5 w5 nj s5;have rc:=aa (uv.out.trans s5);have HF5:=aa (rc.out.held HFH.out (fun x hx e=>by have:=HZU.out x e;omega));obtain ⟨MS,wv⟩:=ab (md++NL);have hml:MS.length<=70000003:=by rw [wv,List.length_append];omega
         rw [<-wv] at nj;have qO:=aa nj;have HE5:=aa (show MS++F=((L.drop i).take (t+1 - i)).flatMap clB from by rw [<-sg.out,oU.out,wv,List.append_assoc]);have pr:=aa (Nat.le_trans m5.out.size rc.out.1.size);clear nj s5 wv
         go_wp2_with (at_builtin;refine bq (Z:=fun x=>wu.heap.size<=x/\v5.ownBlock≠some x) rfl (.tmp 72) (.tmp 73) 46 rfl Tryd.underlying46 rfl rfl qO.out HF5.out (fun x hx=>hx.2) (by have:=ux.out;omega) pr.out ?_)
         intro v6 w6 pD s6;have HF:=aa (show k+1=(t+1 - i)+av bl (L.drop (t+1))/\MS++F=((L.drop i).take (t+1 - i)).flatMap clB/\BOwn w6 wq.heap.size v6 (MS++F)/\Below wq.heap.size wq w6 from ⟨qY.out,HE5.out,pD,m5.out.trans (rc.out.trans s6).1⟩);clear pD s6;go_wp2
         go_roundw
         case rel=>exact ⟨t+1,MS++F,by go_num,by omega,by omega,HF⟩
         case measure=>simp [intOf] <;> omega
      |false =>
       have rA:t=i+(k+1):=by
        have h1:=HT.out.1;have h2:av bl (L.drop t)=0:=by
         rcases Nat.lt_or_ge t n with h | h
         ·have e:=mi.out;rw [decide_eq_true h,Bool.true_and] at e;rw [bW bl L t (by rw [<-HN.out];exact h),if_neg (beq_eq_false_iff_ne.1 e.symm)]
         ·rw [List.drop_of_length_le (by rw [<-HN.out];exact h)];rfl
        omega
       obtain ⟨m,hm⟩:=ab (k+1);rw [<-hm] at oO rA xB;have wa:1<=m:=by omega
       have sg:=aa (show md=((L.drop i).take m).flatMap clB from by rw [HT.out.2.1,show t - i=m by omega]);have sY:=aa HT.out.2.2.1;have rW:=aa HT.out.2.2.2;have ui:=aa (show t=i+m from rA);have hpml:pre.length+md.length<=70000000:=by
        have h1:=congrArg List.length HS.out.1;have h2:=congrArg List.length oO.out;rw [List.length_append] at h1;rw [List.length_append,List.length_append] at h2;have:=v8.out;rw [sg.out];omega
       have rs:IntKind.i64.wrap ((t:Int) - (i:Int))=(m:Int):=by rw [IntKind.wrap_i64];omega
       have hwm2:IntKind.i64.wrap (2 * (m:Int))=((2 * m:Nat):Int):=by rw [IntKind.wrap_i64];omega
       have xa:IntKind.i64.wrap (((2 * m:Nat):Int)+(fl:Int))=((2 * m+fl:Nat):Int):=by rw [IntKind.wrap_i64];omega
       have oM:=aa (cx (2 * m+fl) (by omega) wt);obtain ⟨NL,qs⟩:=ab (aA (2 * m+fl));have mA:=(aD (show 2 * m+fl<2097152 by omega)).2;rw [<-qs] at oM oO mA;have HOU:=aa (show BOwn wt w.heap.size u3 pre from HS.out.2.1.below HT.out.2.2.2);have HUL:=aa (fun x (e:u3.ownBlock=some x)=>(HS.out.2.1.lt x e).2);have HPR:=aa (show (pre++NL)++md++aF (L.drop (i+m))=aF L from by rw [<-HS.out.1,oO.out,sg.out];simp only [List.append_assoc]);have htm:(t:Int) - (i:Int)=(m:Int):=by omega
       clear rA hm HT mi qs oO HS oR
       go_wp2_with fail
       rw [show (2 * (m:Int)+(fl:Int))=((2 * m+fl:Nat):Int) from by omega];refine oM.out.mono ?_;rintro e w4 ⟨v4,rfl,mY,b4⟩;have oY:=aa (HOU.out.below b4);have tO:=aa (mY.held (Z:=fun x=>wt.heap.size<=x) (fun x h _=>h));have uv:=aa (Stp.bel (B:=w.heap.size) (v:=u3) b4 r9.out.size);have tk:=aa (Nat.le_trans r9.out.size b4.size);have HWT:=aa rW.out.size;clear mY b4 oM htm
       go_wp2_with (at_builtin;refine bq (Z:=fun x=>wt.heap.size<=x) rfl (.tmp 77) (.tmp 84) 46 rfl Tryd.underlying46 rfl rfl oY.out tO.out (fun x hx e=>by have:=HUL.out x e;have:=HWT.out;omega) (by omega) tk.out ?_)
       intro v5 w5 nj s5;have rc:=aa (uv.out.trans s5);have xe:=aa (rc.out.held (sY.out.held (Z:=fun x=>wq.heap.size<=x) (fun x h _=>h)) (fun x hx e=>by have:=HUL.out x e;omega));obtain ⟨PS,yg⟩:=ab (pre++NL);have hpl:PS.length+md.length<=70000003:=by rw [yg,List.length_append];omega
       rw [<-yg] at nj HPR;have qO:=aa nj;have pr:=aa (Nat.le_trans r9.out.size rc.out.1.size);clear nj s5 yg
       go_wp2_with (at_builtin;refine bq (Z:=fun x=>wq.heap.size<=x/\v5.ownBlock≠some x) rfl (.tmp 86) (.tmp 87) 46 rfl Tryd.underlying46 rfl rfl qO.out xe.out (fun x hx=>hx.2) (by omega) pr.out ?_)
       intro v6 w6 pD s6;have HF:=aa (show (PS++md)++aF (L.drop t)=aF L/\BOwn w6 w.heap.size v6 (PS++md)/\Below w.heap.size w w6 from ⟨by rw [ui.out];exact HPR.out,pD,r9.out.trans (rc.out.trans s6).1⟩);have hti:i<t:=by rw [ui.out];omega
       clear pD s6;go_wp2
       go_roundw
       case rel=>exact ⟨t,PS++md,by go_num,by omega,HF⟩
       case measure=>simp [intOf] <;> omega
  ·obtain rfl:i=n:=by omega
   have d1:¬ (i:Int)<(i:Int):=by omega
   have d1b:decide ((i:Int)<(i:Int))=false:=ah (by omega);have HF:=aa (show BOwn wo w.heap.size u3 (aF L)/\Below w.heap.size w wo from by
    have h1:=HS.out.1;rw [List.drop_of_length_le (by rw [<-HN.out];exact Nat.le_refl _),bG,List.append_nil] at h1;rw [<-h1];exact HS.out.2)
   clear mS HS;go_wp2;go_ret;exact ⟨_,rfl,HF.out.1,HF.out.2⟩
end Go.Proofs.YtechjomepdahiaaDoor
