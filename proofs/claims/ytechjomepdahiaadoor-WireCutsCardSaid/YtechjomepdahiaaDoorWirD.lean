import Derived.Test.YtechjomepdahiaaDoorZ0
import Derived.Test.YtechjomepdahiaaDoorWirC
set_option maxRecDepth 100000
set_option linter.unusedVariables false
set_option linter.unusedSimpArgs false
set_option maxHeartbeats 4000000
namespace Go.Proofs.YtechjomepdahiaaDoor
open Go.RowKit Go.ChangeShapes Go.WideShapes
def kS(w:World)(L:List Int)(e:Ending)(w':World):Prop:=∃ v',e=.returned (.tuple #[v',.int .i64 (-1)])/\BOwn w' w.heap.size v' L/\Below w.heap.size w w'
theorem kT(v:Value)(xs:List Int)(w:World)(hh:Held .i32 w v xs)(mQ:∀ i,i<xs.length->ai (xs.getD i 0)=true)(hlen:xs.length<=1000000000) :
  Calls Tryd.prog 93 #[v] w (kS w (xs.flatMap aj)):=by
 obtain ⟨ao,cap,rfl,hc⟩:=hh.view;have HC:=aa hc;have HV:=aa mQ;clear hc mQ hh
 go_enter Tryd.func93,Tryd.ntmps93
 go_wp2
 go_loopw [5,4] (fun i v wr=>∃ k:Nat,k<=xs.length/\i=.int .i64 k/\f7 w xs k v wr) (fun i _ _=>xs.length - (intOf i).toNat)
 case atStart=>exact ⟨0,Nat.zero_le _,rfl,World.ownsRow_nil _ _ _ _,Below.refl _ _⟩
 case round =>
  obtain ⟨m,hm,rfl,hrel⟩:=hrel
  by_cases rb:m<xs.length
  ·obtain ⟨b,off,rfl,hb,mh⟩:=HC.out m rb;have pa:=HV.out m rb;obtain ⟨x,hx⟩:=ab (xs.getD m 0);rw [<-hx] at mh pa;have mh:=(hrel.2.cell (p:=⟨b,off+m,none⟩) hb).trans mh;have HX:=aa hx;have HV:=aa pa;clear hx pa;have hle:=gX xs m
   go_wp2_with fail
   refine (bR _ _).mono ?_;rintro e w' ⟨rfl,rfl⟩;rw [HV.out]
   go_wp2_with fail
   refine (gE _ _).mono ?_;rintro e w1 ⟨v1,rfl,lF,hb1⟩;have l4:=dV x;have hown1:=hrel.1;have hown2:=bF hown1 hb1
   go_wp2_with (at_builtin;refine dv w1 rfl (.tmp 19) (.tmp 24) 46 rfl w.heap.size 5 (.int .u8 0) 1 Tryd.underlying46 Tryd.info5 rfl .u8 _ (ep xs m).length (ep xs m) rfl hown2 v1 (aj x) rfl lF (by omega) (by omega) (Nat.le_trans hrel.2.size hb1.size) ?_)
   intro v2 w2 mw hb2;have pz:f7 w xs (m+1) v2 w2:=by
    rw [HX.out] at mw;refine ⟨?_,(hrel.2.trans (hb1.mono hrel.2.size)).trans hb2⟩;rw [fH xs m rb,List.length_append,List.map_append];exact mw
   clear hown1 hown2 mw hb1 hb2 hrel mh lF;go_wp2
   go_roundw
   case rel=>exact ⟨m+1,by omega,by go_num,pz⟩
   case measure=>simp [intOf];omega
  ·go_wp2
   go_ret2
   have qd:m=xs.length:=by omega
   subst qd;have:=dY (Z:=fun _=>True) hrel.1;exact ⟨_,rfl,by simpa [ep] using this,hrel.2⟩
theorem ll(x:Int)(bl:Bool):((x == 0) == bl)=((x != 0) == !bl):=by
 show _=((!(x == 0)) == !bl)
 cases (x == 0) <;> cases bl <;> rfl
theorem kU(K:Int)(h:true=(K == 1 || K == 2)):∃ f:Nat,f<=1/\K=1+(f:Int)/\f=(if K=2 then 1 else 0):=by
 have h:=h.symm;rw [Bool.or_eq_true,beq_iff_eq,beq_iff_eq] at h
 rcases h with rfl | rfl
 ·exact ⟨0,by omega,by omega,rfl⟩
 ·exact ⟨1,by omega,by omega,rfl⟩
theorem jB(Zc:an)(cv:Value)(L:List Cl)(w:World)(nC:L.length<=1000000)(hs:∀ c ∈ L,am c=true)(hc:HeldE cellE Zc w cv L):Calls Tryd.prog 59 #[cv] w (iH w (aE L)):=by
 obtain ⟨co,cc,rfl⟩:=hc.len;have mu:=(bs hc).2.1;have rZ:=bT L.length L (Nat.le_refl _) nC hs;have vz:=aa (show (aE L).length<=70000000 from by omega);have tn:=aa (bs hc.lower).2.2;have ue:=aa (show ∀ i,i<L.length->am (L.getD i zc)=true from fun i hi=>hs _ (by rw [show L.getD i zc=L[i] from by simp [List.getD,List.getElem?_eq_getElem hi]];exact List.getElem_mem hi));obtain ⟨n,hn⟩:=ab (L.length);have HN:=aa hn;rw [<-hn] at mu nC ⊢;clear rZ hc hs hn
 go_enter Tryd.func59,Tryd.ntmps59
 go_wp2
 go_loopw [3,4] (fun ov iv wr=>∃ (i:Nat) (pre:List Int),iv=.int .i64 (i:Int)/\i<=n/\Hid (pre++aE (L.drop i)=aE L/\BOwn wr w.heap.size ov pre/\Below w.heap.size w wr)) (fun _ iv _=>n - (intOf iv).toNat)
 case atStart=>exact ⟨0,[],rfl,Nat.zero_le _,aa ⟨by rw [List.drop_zero,List.nil_append],OwnE.nil _ _ _ _ _,Below.refl _ _⟩⟩
 case round =>
  obtain ⟨i,pre,rfl,hi,HS⟩:=hrel;obtain ⟨wo,qC⟩:=ab (wr);subst qC
  by_cases mo:i<n
  ·have d1:(i:Int)<(n:Int):=by omega
   have d1b:decide ((i:Int)<(n:Int))=true:=ag (by omega);have om:i<L.length:=by rw [<-HN.out];exact mo
   obtain ⟨b,off,tv,e0,hb,_,c0,c1,hh⟩:=tn.out i om;subst e0;have hb0:=hb;have c0:=(HS.out.2.2.cell (p:=⟨b,off+i * 2,none⟩) hb).trans c0;obtain ⟨K,hK⟩:=ab ((L.getD i zc).1);rw [<-hK] at c0;obtain ⟨bl,hbl⟩:=ab (blk (L.getD i zc));have wC:(K == 0)=bl:=by rw [hbl,hK];rfl
   have hKn:(K != 0) = !bl:=by rw [<-wC];rfl
   have nZ:=aa (gh L i om);have hr1:=bU bl L i om;rw [<-hbl] at nZ;rw [<-hbl,if_pos rfl] at hr1;obtain ⟨k,hk⟩:=ab (ar bl (L.drop (i+1)));rw [<-hk] at nZ hr1;have uF:i+(k+1)<=n:=by
    have:=bW bl (L.drop (i+1));rw [List.length_drop,<-hk,<-HN.out] at this;omega
   have qh:=aa hr1;have hic:i<cc:=by omega
   obtain ⟨fl,l4⟩ : ∃ fl:Nat,fl=(if bl=true then 0 else 1):=⟨_,rfl⟩;have od:=aa l4;have pi:fl<=1:=by rw [l4];split <;> omega
   rw [<-l4] at nZ;clear hK hbl hb c1 hh hr1 hk wC l4
   go_upto_if 20 with (fail)
   go_cut [6] from 20 to 20 (fun kv wx=>kv=.int .i64 (fl:Int)/\wx=wo)
   case first =>
    have e:=od.out
    cases bl with
    |true =>
     rw [if_pos rfl] at e;subst e;clear od;go_wp2;go_meet
     case rel=>exact ⟨rfl,rfl⟩
    |false =>
     rw [if_neg (by decide)] at e;subst e;clear od;go_wp2;go_meet
     case rel=>exact ⟨rfl,rfl⟩
   case rest =>
    obtain ⟨rfl,rfl⟩:=hcut;obtain ⟨wq,ns⟩:=ab (wc);subst ns;clear c0;have hqsz:=HS.out.2.2.size;go_wp2
    go_loopw [5,7] (fun tv nv wr=>∃ (t:Nat) (md:List Int),tv=.int .i64 (t:Int)/\i<=t/\t<=n/\Hid (k+1=(t - i)+ar bl (L.drop t)/\md=((L.drop i).take (t - i)).flatMap clB/\BOwn wr wq.heap.size nv md/\Below wq.heap.size wq wr)) (fun tv _ _=>n - (intOf tv).toNat)
    case atStart=>exact ⟨i,[],rfl,Nat.le_refl _,by omega,aa ⟨by rw [qh.out];omega,by simp,OwnE.nil _ _ _ _ _,Below.refl _ _⟩⟩
    case round =>
     obtain ⟨t,md,rfl,ht1,ua,HT⟩:=hrel;obtain ⟨wp,sx⟩:=ab (wr);subst sx;obtain ⟨tt,o4⟩:=ab ((decide (t<n) && (blk (L.getD t zc) == bl)));have lM:=aa o4;have qT:=aa (HS.out.2.2.trans (HT.out.2.2.2.mono hqsz));have hfk:((fl:Int) == 1) = !bl:=by
      have e:=od.out
      cases bl with
      |true=>rw [if_pos rfl] at e;rw [e];rfl
      |false=>rw [if_neg (by decide)] at e;rw [e];rfl
     clear o4 qh
     go_upto_region 9 with (fail)
     go_cut [35] from 21 to 35 (fun tv wx=>tv=.bool tt/\wx=wp)
     case first =>
      by_cases htn:t<n
      ·have d3:decide ((t:Int)<(n:Int))=true:=ag (by omega);have d3n:decide (t<n)=true:=ag (by omega);have d4:(t:Int)<(n:Int):=by omega
       obtain ⟨b2,off2,tv2,e2,hb2,_,y0,y1,nB⟩:=tn.out t (by rw [<-HN.out];exact htn)
       cases e2
       have y0:=(qT.out.cell (p:=⟨b,off+t * 2,none⟩) hb2).trans y0;obtain ⟨K2,hK2⟩:=ab ((L.getD t zc).1);obtain ⟨nb,qD⟩:=ab ((K2 != 0));have e:tt=(nb == !bl):=by rw [lM.out,d3n,qD,hK2,Bool.true_and];exact ll _ _
       have hnb2:(K2 != 0)=nb:=qD.symm;rw [<-hK2] at y0;have htc:t<cc:=by omega
       subst e;clear lM y1 nB hb2 hK2 htn qD;go_wp2;go_meet
       case rel=>exact ⟨by first | rfl | (congr 1;simp),rfl⟩
      ·have pq:t=n:=by omega
       have d3:decide ((t:Int)<(n:Int))=false:=ah (by omega);have d4:¬ (t:Int)<(n:Int):=by omega
       have e:tt=false:=by rw [lM.out,pq,decide_eq_false (Nat.lt_irrefl _)];rfl
       subst e;clear lM pq htn;go_wp2;go_meet
       case rel=>exact ⟨rfl,rfl⟩
     case rest =>
      obtain ⟨rfl,rfl⟩:=hcut;obtain ⟨wt,hwt⟩:=ab (wc);subst hwt
      cases tt with
      |true =>
       have e:=lM.out.symm;rw [Bool.and_eq_true,decide_eq_true_eq,beq_iff_eq] at e;have htN:=e.1;have vr:t<L.length:=by rw [<-HN.out];exact htN
       have qm:=aa (show k+1=(t+1 - i)+ar bl (L.drop (t+1)) from by
        have h1:=HT.out.1;rw [bU bl L t vr,if_pos e.2] at h1;omega)
       have si:=aa (show md++clB (L.getD t zc)=((L.drop i).take (t+1 - i)).flatMap clB from by
        have h9:t - i<(L.drop i).length:=by rw [List.length_drop];omega
        rw [HT.out.2.1,show t+1 - i=(t - i)+1 by omega,List.take_succ_eq_append_getElem h9,List.flatMap_append,List.flatMap_singleton,List.getElem_drop]
        congr 2
        rw [show L.getD t zc=L[t] from by simp [List.getD,List.getElem?_eq_getElem vr]]
        congr 1
        omega)
       have o1:=ue.out t vr;obtain ⟨r1,r2,r3⟩:=dQ o1;have mL:=dd o1;obtain ⟨b2,off2,tv2,e2,hb2,_,y0,y1,nB⟩:=tn.out t vr
       cases e2
       have y0:=(qT.out.cell (p:=⟨b,off+t * 2,none⟩) hb2).trans y0;have y1:=(qT.out.cell (p:=⟨b,off+t * 2+1,none⟩) hb2).trans y1;obtain ⟨⟨K2,T2⟩,hKT2⟩ : ∃ y,y=L.getD t zc:=⟨_,rfl⟩;rw [<-hKT2] at y0 nB o1 r1 r2 r3 mL si;simp only at y0 nB r1 r2 r3;have hmdl:md.length<=70000000:=by
        have h1:md.length<=67 * (t - i):=by
         rw [HT.out.2.1];have:∀ (M:List Cl),(∀ d ∈ M,am d=true)->(M.flatMap clB).length<=67 * M.length:=by
          intro M
          induction M with
          |nil=>intro _;simp
          |cons d M ih =>
           intro hd;rw [List.flatMap_cons,List.length_append,List.length_cons];have:=dd (hd d (List.mem_cons_self ..));have:=ih (fun e he=>hd e (List.mem_cons_of_mem _ he));omega
         refine Nat.le_trans (this _ (fun d hd=>?_)) ?_
         ·obtain ⟨q,hq,rfl⟩:=List.getElem_of_mem (List.mem_of_mem_drop (List.mem_of_mem_take hd));have:=ue.out q hq;rw [show L.getD q zc=L[q] from by simp [List.getD,List.getElem?_eq_getElem hq]] at this;exact this
         ·rw [List.length_take];exact Nat.mul_le_mul_left _ (Nat.min_le_left _ _)
        omega
       have htc:t<cc:=by omega
       have r7:=aa HT.out.2.2.1;have rg:=aa HT.out.2.2.2;clear e lM HT hKT2 hb2;obtain ⟨kk,qd⟩:=ab ((K2 == 1 || K2 == 2));have qV:=aa qd;clear qd
       go_upto_region 10 with (fail)
       go_cut [49] from 36 to 49 (fun tv wx=>tv=.bool kk/\wx=wt)
       case first =>
        by_cases h1:K2=1
        ·subst h1;have e:kk=true:=qV.out;subst e;clear qV;go_wp2;go_meet
         case rel=>exact ⟨rfl,rfl⟩
        ·have h1b:(K2 == 1)=false:=beq_eq_false_iff_ne.2 h1;have e:kk=(K2 == 2):=by rw [qV.out,h1b];rfl
         subst e;clear qV h1;go_wp2;go_meet
         case rel=>exact ⟨rfl,rfl⟩
       case rest =>
        obtain ⟨rfl,rfl⟩:=hcut;obtain ⟨wu,hwu⟩:=ab (wc);subst hwu
        cases kk with
        |false =>
         have ve:T2.length=0:=by
          rcases Nat.eq_zero_or_pos T2.length with h | h
          ·exact h
          ·exfalso;have:=qV.out
           rcases r3 h with e | e <;> rw [e] at this <;> exact absurd this (by decide)
         have HF:=aa (show k+1=(t+1 - i)+ar bl (L.drop (t+1))/\md=((L.drop i).take (t+1 - i)).flatMap clB/\BOwn wu wq.heap.size u7 md/\Below wq.heap.size wq wu from ⟨qm.out,by rw [<-si.out];unfold clB;rw [if_pos ve,List.append_nil],r7.out,rg.out⟩);clear ve qm si r7 rg r1 r2 r3 o1 nB y0 y1;go_wp2
         go_roundw
         case rel=>exact ⟨t+1,md,by go_num,by omega,by omega,HF⟩
         case measure=>simp [intOf] <;> omega
        |true =>
         have ve:0<T2.length:=by
          rcases Nat.eq_zero_or_pos T2.length with h | h
          ·exfalso;have h1:=o1;unfold am at h1;have h2:=qV.out.symm;rw [Bool.or_eq_true,beq_iff_eq,beq_iff_eq] at h2
           rcases h2 with rfl | rfl
           ·simp [h] at h1
           ·simp [h] at h1
          ·exact h
         obtain ⟨f2,hf1,hf2,hf3⟩:=kU K2 qV.out;obtain ⟨F,hF⟩:=ab (T2.flatMap aj);have hfl2:F.length<=64:=by rw [hF];have:=dp T2;omega
         have oe:=aa (show clB (K2,T2)=az (2 * F.length+f2)++F from by unfold clB;rw [if_neg (show ¬ T2.length=0 by omega),<-hF,<-hf3]);have we:=aa (kT tv2 T2 wu ((nB.below qT.out).ints) r1 (by omega));rw [<-hF] at we;obtain ⟨ta2,tc2,et2⟩:=nB.len;subst et2;subst hf2;clear ve r1 r2 r3 o1 nB hf3 hF qV
         go_wp2_with fail
         refine we.out.mono ?_;rintro e w3 ⟨fv,rfl,ot,b3⟩;have sf:=ot.held (Z:=fun x=>wu.heap.size<=x) (fun x h _=>h);obtain ⟨fo,fc,efv⟩:=sf.len;obtain ⟨nf,ry⟩:=ab (F.length);rw [<-ry] at efv hfl2 oe;subst efv;have HFH:=aa sf;have tZ:=aa ry;have pe:=aa (fun x (e:u7.ownBlock=some x)=>(r7.out.lt x e).2);have xD:=aa (r7.out.below b3);have mv:=aa (rg.out.trans (b3.mono rg.out.size));have nz:=aa b3;have y0:=(b3.cell (p:=⟨b,off+t * 2,none⟩) (Nat.lt_of_lt_of_le hb0 (Nat.le_trans hqsz rg.out.size))).trans y0;have hw1:IntKind.i64.wrap (2 * (nf:Int))=((2 * nf:Nat):Int):=by rw [IntKind.wrap_i64];omega
         have hw2:IntKind.i64.wrap (((2 * nf:Nat):Int)+(1+(f2:Int)))=((2 * nf+f2+1:Nat):Int):=by rw [IntKind.wrap_i64];omega
         have hw3:IntKind.i64.wrap (((2 * nf+f2+1:Nat):Int) - 1)=((2 * nf+f2:Nat):Int):=by rw [IntKind.wrap_i64];omega
         have n7:=aa (ct (2 * nf+f2) (by omega) w3);obtain ⟨NL,pC⟩:=ab (az (2 * nf+f2));have l9:=(aC (show 2 * nf+f2<2097152 by omega)).2;rw [<-pC] at n7 oe l9;clear sf ot b3 ry pC we r7 rg
         go_wp2_with fail
         rw [show (2 * (nf:Int)+(1+(f2:Int)) - 1)=((2 * nf+f2:Nat):Int) from by omega];refine n7.out.mono ?_;rintro e w4 ⟨v4,rfl,me,b4⟩;have HM4:=aa (xD.out.below b4);have tB:=aa (me.held (Z:=fun x=>w3.heap.size<=x) (fun x h _=>h));have sX:=aa (Stp.bel (B:=wq.heap.size) (v:=u7) b4 mv.out.size);have sl:=aa (Nat.le_trans mv.out.size b4.size);have uX:=aa (fun x (e:u7.ownBlock=some x)=>xD.out.lt x e);have HZU:=aa (fun x (e:u7.ownBlock=some x)=>Nat.lt_of_lt_of_le (pe.out x e) (Nat.le_refl _));clear me b4 n7 y0 y1 xD
         go_wp2_with (at_builtin;refine a8 (Z:=fun x=>w3.heap.size<=x) rfl (.tmp 59) (.tmp 70) 46 rfl Tryd.underlying46 rfl rfl HM4.out tB.out (fun x hx e=>by have:=(uX.out x e).2;omega) (by omega) sl.out ?_)
         intro v5 w5 mE s5;have qy:=aa (sX.out.trans s5);have HF5:=aa (qy.out.held HFH.out (fun x hx e=>by have:=HZU.out x e;omega));obtain ⟨MS,vk⟩:=ab (md++NL);have hml:MS.length<=70000003:=by rw [vk,List.length_append];omega
         rw [<-vk] at mE;have pV:=aa mE;have HE5:=aa (show MS++F=((L.drop i).take (t+1 - i)).flatMap clB from by rw [<-si.out,oe.out,vk,List.append_assoc]);have oz:=aa (Nat.le_trans mv.out.size qy.out.1.size);clear mE s5 vk
         go_wp2_with (at_builtin;refine a8 (Z:=fun x=>wu.heap.size<=x/\v5.ownBlock≠some x) rfl (.tmp 72) (.tmp 73) 46 rfl Tryd.underlying46 rfl rfl pV.out HF5.out (fun x hx=>hx.2) (by have:=tZ.out;omega) oz.out ?_)
         intro v6 w6 o5 s6;have HF:=aa (show k+1=(t+1 - i)+ar bl (L.drop (t+1))/\MS++F=((L.drop i).take (t+1 - i)).flatMap clB/\BOwn w6 wq.heap.size v6 (MS++F)/\Below wq.heap.size wq w6 from ⟨qm.out,HE5.out,o5,mv.out.trans (qy.out.trans s6).1⟩);clear o5 s6;go_wp2
         go_roundw
         case rel=>exact ⟨t+1,MS++F,by go_num,by omega,by omega,HF⟩
         case measure=>simp [intOf] <;> omega
      |false =>
       have qs:t=i+(k+1):=by
        have h1:=HT.out.1;have h2:ar bl (L.drop t)=0:=by
         rcases Nat.lt_or_ge t n with h | h
         ·have e:=lM.out;rw [decide_eq_true h,Bool.true_and] at e;rw [bU bl L t (by rw [<-HN.out];exact h),if_neg (beq_eq_false_iff_ne.1 e.symm)]
         ·rw [List.drop_of_length_le (by rw [<-HN.out];exact h)];rfl
        omega
       obtain ⟨m,hm⟩:=ab (k+1);rw [<-hm] at nZ qs uF;have vy:1<=m:=by omega
       have si:=aa (show md=((L.drop i).take m).flatMap clB from by rw [HT.out.2.1,show t - i=m by omega]);have r7:=aa HT.out.2.2.1;have rg:=aa HT.out.2.2.2;have sR:=aa (show t=i+m from qs);have hpml:pre.length+md.length<=70000000:=by
        have h1:=congrArg List.length HS.out.1;have h2:=congrArg List.length nZ.out;rw [List.length_append] at h1;rw [List.length_append,List.length_append] at h2;have:=vz.out;rw [si.out];omega
       have qK:IntKind.i64.wrap ((t:Int) - (i:Int))=(m:Int):=by rw [IntKind.wrap_i64];omega
       have hwm2:IntKind.i64.wrap (2 * (m:Int))=((2 * m:Nat):Int):=by rw [IntKind.wrap_i64];omega
       have vS:IntKind.i64.wrap (((2 * m:Nat):Int)+(fl:Int))=((2 * m+fl:Nat):Int):=by rw [IntKind.wrap_i64];omega
       have n7:=aa (ct (2 * m+fl) (by omega) wt);obtain ⟨NL,pC⟩:=ab (az (2 * m+fl));have l9:=(aC (show 2 * m+fl<2097152 by omega)).2;rw [<-pC] at n7 nZ l9;have HOU:=aa (show BOwn wt w.heap.size u3 pre from HS.out.2.1.below HT.out.2.2.2);have HUL:=aa (fun x (e:u3.ownBlock=some x)=>(HS.out.2.1.lt x e).2);have HPR:=aa (show (pre++NL)++md++aE (L.drop (i+m))=aE L from by rw [<-HS.out.1,nZ.out,si.out];simp only [List.append_assoc]);have htm:(t:Int) - (i:Int)=(m:Int):=by omega
       clear qs hm HT lM pC nZ HS od
       go_wp2_with fail
       rw [show (2 * (m:Int)+(fl:Int))=((2 * m+fl:Nat):Int) from by omega];refine n7.out.mono ?_;rintro e w4 ⟨v4,rfl,me,b4⟩;have oo:=aa (HOU.out.below b4);have tB:=aa (me.held (Z:=fun x=>wt.heap.size<=x) (fun x h _=>h));have sX:=aa (Stp.bel (B:=w.heap.size) (v:=u3) b4 qT.out.size);have sl:=aa (Nat.le_trans qT.out.size b4.size);have HWT:=aa rg.out.size;clear me b4 n7 htm
       go_wp2_with (at_builtin;refine a8 (Z:=fun x=>wt.heap.size<=x) rfl (.tmp 77) (.tmp 84) 46 rfl Tryd.underlying46 rfl rfl oo.out tB.out (fun x hx e=>by have:=HUL.out x e;have:=HWT.out;omega) (by omega) sl.out ?_)
       intro v5 w5 mE s5;have qy:=aa (sX.out.trans s5);have wB:=aa (qy.out.held (r7.out.held (Z:=fun x=>wq.heap.size<=x) (fun x h _=>h)) (fun x hx e=>by have:=HUL.out x e;omega));obtain ⟨PS,wv⟩:=ab (pre++NL);have hpl:PS.length+md.length<=70000003:=by rw [wv,List.length_append];omega
       rw [<-wv] at mE HPR;have pV:=aa mE;have oz:=aa (Nat.le_trans qT.out.size qy.out.1.size);clear mE s5 wv
       go_wp2_with (at_builtin;refine a8 (Z:=fun x=>wq.heap.size<=x/\v5.ownBlock≠some x) rfl (.tmp 86) (.tmp 87) 46 rfl Tryd.underlying46 rfl rfl pV.out wB.out (fun x hx=>hx.2) (by omega) oz.out ?_)
       intro v6 w6 o5 s6;have HF:=aa (show (PS++md)++aE (L.drop t)=aE L/\BOwn w6 w.heap.size v6 (PS++md)/\Below w.heap.size w w6 from ⟨by rw [sR.out];exact HPR.out,o5,qT.out.trans (qy.out.trans s6).1⟩);have hti:i<t:=by rw [sR.out];omega
       clear o5 s6;go_wp2
       go_roundw
       case rel=>exact ⟨t,PS++md,by go_num,by omega,HF⟩
       case measure=>simp [intOf] <;> omega
  ·obtain rfl:i=n:=by omega
   have d1:¬ (i:Int)<(i:Int):=by omega
   have d1b:decide ((i:Int)<(i:Int))=false:=ah (by omega);have HF:=aa (show BOwn wo w.heap.size u3 (aE L)/\Below w.heap.size w wo from by
    have h1:=HS.out.1;rw [List.drop_of_length_le (by rw [<-HN.out];exact Nat.le_refl _),bD,List.append_nil] at h1;rw [<-h1];exact HS.out.2)
   clear mo HS;go_wp2;go_ret;exact ⟨_,rfl,HF.out.1,HF.out.2⟩
end Go.Proofs.YtechjomepdahiaaDoor
