import Derived.Test.YtechjomepdahiaaDoorZ0
import Derived.Test.YtechjomepdahiaaDoorWirA
set_option maxRecDepth 100000
set_option linter.unusedVariables false
set_option linter.unusedSimpArgs false
set_option maxHeartbeats 3000000
namespace Go.Proofs.YtechjomepdahiaaDoor
open Go.RowKit Go.ChangeShapes Go.WideShapes
theorem bT:∀ (n:Nat) (L:List Cl),L.length<=n->L.length<=1000000->(∀ c ∈ L,am c=true)->(aE L).length<=70 * L.length
 |_,[]=>fun _ _ _=>by rw [bD];simp
 |0,c :: l=>fun h=>by simp only [List.length_cons] at h;omega
 |n+1,c :: l=>fun h hm hr=>by
  have hle:=bW (blk c) l;rw [bZ];obtain ⟨k,hk⟩:=ab (ar (blk c) l);rw [<-hk] at hle ⊢;simp only [List.length_cons] at h hm;have h1:=aC (show 2 * (k+1)+(if blk c=true then 0 else 1)<2097152 by split <;> omega);have h2:=dd (hr c (List.mem_cons_self ..));have h3:∀ (M:List Cl),(∀ d ∈ M,am d=true)->(M.flatMap clB).length<=67 * M.length:=by
   intro M
   induction M with
   |nil=>intro _;simp
   |cons d M ih =>
    intro hd;rw [List.flatMap_cons,List.length_append,List.length_cons];have:=dd (hd d (List.mem_cons_self ..));have:=ih (fun e he=>hd e (List.mem_cons_of_mem _ he));omega
  have h4:=h3 (l.take k) (fun d hd=>hr d (List.mem_cons_of_mem _ (List.mem_of_mem_take hd)));have h5:=bT n (l.drop k) (by rw [List.length_drop];omega) (by rw [List.length_drop];omega) (fun d hd=>hr d (List.mem_cons_of_mem _ (List.mem_of_mem_drop hd)));rw [List.length_take] at h4;rw [List.length_drop] at h5;rw [List.length_append,List.length_append,List.length_append,List.length_cons];omega
theorem gh(L:List Cl)(i:Nat)(h:i<L.length):aE (L.drop i)=az (2 * (ar (blk (L.getD i zc)) (L.drop (i+1))+1)+(if blk (L.getD i zc)=true then 0 else 1))++((L.drop i).take (ar (blk (L.getD i zc)) (L.drop (i+1))+1)).flatMap clB++aE (L.drop (i+(ar (blk (L.getD i zc)) (L.drop (i+1))+1))):=by
 have hx:L.getD i zc=L[i]:=by simp [List.getD,List.getElem?_eq_getElem h]
 have hd:L.drop i=L.getD i zc :: L.drop (i+1):=by rw [hx];exact List.drop_eq_getElem_cons h
 rw [hd,bZ,List.drop_drop]
 congr 3
 omega
theorem bU(b:Bool)(L:List Cl)(i:Nat)(h:i<L.length):ar b (L.drop i)=if blk (L.getD i zc)=b then ar b (L.drop (i+1))+1 else 0:=by
 have hx:L.getD i zc=L[i]:=by simp [List.getD,List.getElem?_eq_getElem h]
 rw [show L.drop i=L.getD i zc :: L.drop (i+1) by rw [hx];exact List.drop_eq_getElem_cons h]
 rfl
theorem iY(B:Nat)(v:Value)(xs:List Int)(Zc:an)(cv:Value)(L:List Cl)(w:World)(hown:BOwn w B v xs)(hB:B<=w.heap.size)(hl:xs.length<=700000000)(nC:L.length<=1000000)(hs:∀ c ∈ L,am c=true)(hc:HeldE cellE Zc w cv L)(hz:∀ b,Zc b->v.ownBlock≠some b):Calls Tryd.prog 52 #[v,cv] w (WAp B v w (xs++aE L)):=by
 obtain ⟨co,cc,rfl⟩:=hc.len;have mu:=(bs hc).2.1;have rZ:=bT L.length L (Nat.le_refl _) nC hs;have vz:=aa (show (aE L).length<=70000000 from by omega);have re:=aa (And.intro hc hz);have ue:=aa (show ∀ i,i<L.length->am (L.getD i zc)=true from fun i hi=>hs _ (by rw [show L.getD i zc=L[i] from by simp [List.getD,List.getElem?_eq_getElem hi]];exact List.getElem_mem hi));have HW:=aa (And.intro hown (Stp.refl B w v));obtain ⟨n,hn⟩:=ab (L.length);have HN:=aa hn;rw [<-hn] at mu nC re ⊢;clear rZ hc hz hs hown hn
 go_enter Tryd.func52,Tryd.ntmps52
 go_wp2
 go_loopw [0,5] (fun bv iv wr=>∃ (i:Nat) (pre:List Int),iv=.int .i64 (i:Int)/\i<=n/\Hid (pre++aE (L.drop i)=aE L/\BOwn wr B bv (xs++pre)/\Stp B w v wr bv)) (fun _ iv _=>n - (intOf iv).toNat)
 case atStart=>exact ⟨0,[],rfl,Nat.zero_le _,aa ⟨by rw [List.drop_zero,List.nil_append],by rw [List.append_nil];exact HW.out.1,HW.out.2⟩⟩
 case round =>
  clear HW;obtain ⟨i,pre,rfl,hi,HS⟩:=hrel;obtain ⟨wo,qC⟩:=ab (wr);subst qC
  by_cases mo:i<n
  ·have d1:(i:Int)<(n:Int):=by omega
   have d1b:decide ((i:Int)<(n:Int))=true:=ag (by omega);have om:i<L.length:=by rw [<-HN.out];exact mo
   have HCW:=aa (HS.out.2.2.held re.out.1 re.out.2);have tn:=aa (bs HCW.out).2.2;obtain ⟨b,off,tv,e0,hb,_,c0,c1,hh⟩:=tn.out i om;subst e0;obtain ⟨K,hK⟩:=ab ((L.getD i zc).1);rw [<-hK] at c0;obtain ⟨bl,hbl⟩:=ab (blk (L.getD i zc));have wC:(K == 0)=bl:=by rw [hbl,hK];rfl
   have nZ:=aa (gh L i om);have hr1:=bU bl L i om;rw [<-hbl] at nZ;rw [<-hbl,if_pos rfl] at hr1;obtain ⟨k,hk⟩:=ab (ar bl (L.drop (i+1)));rw [<-hk] at nZ hr1;have uF:i+(k+1)<=n:=by
    have:=bW bl (L.drop (i+1));rw [List.length_drop,<-hk,<-HN.out] at this;omega
   have qh:=aa hr1;have hic:i<cc:=by omega
   clear hK hbl hb c1 hh hr1 hk
   go_upto_region 5 with (fail)
   clear c0
   go_loopw [7] (fun tv wr=>∃ t:Nat,tv=.int .i64 (t:Int)/\i<=t/\t<=n/\Hid (k+1=(t - i)+ar bl (L.drop t))/\wr=wo) (fun tv _=>n - (intOf tv).toNat)
   case atStart=>exact ⟨i,rfl,Nat.le_refl _,by omega,aa (by rw [qh.out];omega),rfl⟩
   case round =>
    obtain ⟨t,rfl,ht1,ua,HT,rfl⟩:=hrel;obtain ⟨wp,sx⟩:=ab (wr);subst sx;obtain ⟨tt,o4⟩:=ab ((decide (t<n) && (blk (L.getD t zc) == bl)));have lM:=aa o4;clear o4 qh
    go_upto_region 5 with (fail)
    go_cut [34] from 21 to 34 (fun tv wx=>tv=.bool tt/\wx=wp)
    case first =>
     by_cases htn:t<n
     ·have d3:decide ((t:Int)<(n:Int))=true:=ag (by omega);have d3n:decide (t<n)=true:=ag (by omega);have d4:(t:Int)<(n:Int):=by omega
      obtain ⟨b2,off2,tv2,e2,hb2,_,y0,y1,nB⟩:=tn.out t (by rw [<-HN.out];exact htn)
      cases e2
      obtain ⟨K2,hK2⟩:=ab ((L.getD t zc).1);have e:tt=((K2 == 0) == bl):=by rw [lM.out,d3n,hK2];rfl
      rw [<-hK2] at y0;have htc:t<cc:=by omega
      subst e;clear lM y1 nB hb2 hK2 htn;go_wp2;go_meet
      case rel=>exact ⟨by first | rfl | (congr 1;simp),rfl⟩
     ·have pq:t=n:=by omega
      have d3:decide ((t:Int)<(n:Int))=false:=ah (by omega);have d4:¬ (t:Int)<(n:Int):=by omega
      have e:tt=false:=by rw [lM.out,pq,decide_eq_false (Nat.lt_irrefl _)];rfl
      subst e;clear lM pq htn;go_wp2;go_meet
      case rel=>exact ⟨rfl,rfl⟩
    case rest =>
     obtain ⟨rfl,rfl⟩:=hcut;obtain ⟨wq,ns⟩:=ab (wc);subst ns
     cases tt with
     |true =>
      have e:=lM.out.symm;rw [Bool.and_eq_true,decide_eq_true_eq,beq_iff_eq] at e;have htN:=e.1;have qm:=aa (show k+1=(t+1 - i)+ar bl (L.drop (t+1)) from by
       have h1:=HT.out;rw [bU bl L t (by rw [<-HN.out];exact e.1),if_pos e.2] at h1;omega)
      clear e lM HT;go_wp2
      go_roundw
      case rel=>exact ⟨t+1,by go_num,by omega,by omega,qm,trivial⟩
      case measure=>simp [intOf] <;> omega
     |false =>
      have qs:t=i+(k+1):=by
       have h1:=HT.out;have h2:ar bl (L.drop t)=0:=by
        rcases Nat.lt_or_ge t n with h | h
        ·have e:=lM.out;rw [decide_eq_true h,Bool.true_and] at e;rw [bU bl L t (by rw [<-HN.out];exact h),if_neg (beq_eq_false_iff_ne.1 e.symm)]
        ·rw [List.drop_of_length_le (by rw [<-HN.out];exact h)];rfl
       omega
      clear HT lM ua;obtain ⟨m,hm⟩:=ab (k+1);rw [<-hm] at nZ qs uF;have vy:1<=m:=by omega
      clear hm ht1;subst qs;obtain ⟨fl,l4⟩ : ∃ fl:Nat,fl=(if bl=true then 0 else 1):=⟨_,rfl⟩;have pR:=aa (cr (!bl) 1 wq);have tR:(if (!bl)=true then (1:Int) else 0)=(fl:Int):=by rw [l4];cases bl <;> rfl
      rw [tR] at pR;rw [<-l4] at nZ;have pi:fl<=1:=by rw [l4];split <;> omega
      have qK:IntKind.i64.wrap (((i+m:Nat):Int) - (i:Int))=(m:Int):=by rw [IntKind.wrap_i64];omega
      have hwm2:IntKind.i64.wrap (2 * (m:Int))=((2 * m:Nat):Int):=by rw [IntKind.wrap_i64];omega
      have hwf:IntKind.i64.wrap (fl:Int)=(fl:Int):=by rw [IntKind.wrap_i64];omega
      have vS:IntKind.i64.wrap (((2 * m:Nat):Int)+(fl:Int))=((2 * m+fl:Nat):Int):=by rw [IntKind.wrap_i64];omega
      have hpre:pre.length<=70000000:=by
       have h1:=congrArg List.length HS.out.1;rw [List.length_append] at h1;have:=vz.out;omega
      have hB3:B<=wq.heap.size:=Nat.le_trans hB HS.out.2.2.1.size;obtain ⟨YS,mF⟩:=ab (xs++pre);have tw:YS.length<=770000000:=by rw [mF,List.length_append];omega
      have n7:=aa (ez B u0 YS (2 * m+fl) wq (by rw [mF];exact HS.out.2.1) hB3 (by omega) (by omega));obtain ⟨NL,pC⟩:=ab (az (2 * m+fl));have l9:=(aC (show 2 * m+fl<2097152 by omega)).2;rw [<-pC] at n7 nZ l9;have wh:=aa mF;clear tR l4 pC mF;have himn:i<=i+m:=by omega
      have himc:i+m<=cc:=by omega
      have himI:(i:Int)<=((i+m:Nat):Int):=by omega
      have himC:((i+m:Nat):Int)<=(cc:Int):=by omega
      go_upto_region 7 with (fail)
      go_wp2_with fail
      refine pR.out.mono ?_;rintro e w3 ⟨rfl,rfl⟩
      go_wp2_with fail
      rw [show (2 * ((i:Int)+(m:Int) - (i:Int))+(fl:Int))=((2 * m+fl:Nat):Int) from by omega];refine n7.out.mono ?_;rintro e w4 ⟨v4,rfl,me,s4⟩;have sX:=aa (HS.out.2.2.trans s4);obtain ⟨ZS,pY⟩:=ab (YS++NL);rw [<-pY] at me;have hzl:ZS.length<=770000003:=by rw [pY,List.length_append];omega
      have oo:=aa me;obtain ⟨SG,uR⟩:=ab ((L.drop i).take m);rw [<-uR] at nZ;have hsgl:SG.length=m:=by rw [uR,List.length_take,List.length_drop,<-HN.out];omega
      have pS:=aa (show ∀ j,j<m->SG.getD j zc=L.getD (i+j) zc from fun j hj=>by rw [uR,jy,if_pos hj,jz]);have xh:=aa hsgl;have HZE:=aa (show ZS++SG.flatMap clB++aE (L.drop (i+m))=xs++aE L from by
       rw [<-HS.out.1,nZ.out,pY,wh.out];simp only [List.append_assoc])
      have HZE2:=aa (show ∃ q,ZS++SG.flatMap clB=xs++q/\q++aE (L.drop (i+m))=aE L from ⟨pre++NL++SG.flatMap clB,by rw [pY,wh.out];simp only [List.append_assoc],by rw [<-HS.out.1,nZ.out];simp only [List.append_assoc]⟩);clear me s4 pY uR hsgl n7 pR nZ HS wh tw qK hwm2 hwf vS;go_wp2;rw [show i+m - i=m from Nat.add_sub_cancel_left i m];clear himn himI himC vz
      go_loopw [0,53] (fun bv jv wr=>∃ j:Nat,j<=m/\jv=.int .i64 (j:Int)/\Hid (BOwn wr B bv (ZS++(SG.take j).flatMap clB)/\Stp B w v wr bv)) (fun _ jv _=>m - (intOf jv).toNat)
      case atStart=>exact ⟨0,Nat.zero_le _,rfl,aa ⟨by rw [List.take_zero,List.flatMap_nil,List.append_nil];exact oo.out,sX.out⟩⟩
      case round =>
       clear oo sX;obtain ⟨j,hj,rfl,HJ⟩:=hrel;obtain ⟨wj,tW⟩:=ab (wr);subst tW
       by_cases hjm:j<m
       ·have d5:(j:Int)<(m:Int):=by omega
        have d5b:decide ((j:Int)<(m:Int))=true:=ag (by omega);have HCJ:=aa (HJ.out.2.held re.out.1 re.out.2);obtain ⟨b3,off3,tv3,e3,hb3,_,y0,y1,tX⟩:=(bs HCJ.out).2.2 (i+j) (by rw [<-HN.out];omega)
        cases e3
        have hat:∀ d:Nat,off+(i+j) * 2+d=off+i * 2+j * 2+d:=fun d=>by omega
        have y0:wj.cell? ⟨b,off+i * 2+j * 2,none⟩=some (.int .i64 (L.getD (i+j) zc).1):=by have h:=hat 0;rw [Nat.add_zero,Nat.add_zero] at h;rw [<-h];exact y0
        have y1:wj.cell? ⟨b,off+i * 2+j * 2+1,none⟩=some tv3:=by rw [<-hat 1];exact y1
        have o1:=ue.out (i+j) (by rw [<-HN.out];omega);obtain ⟨⟨K3,T3⟩,sm⟩ : ∃ y,y=L.getD (i+j) zc:=⟨_,rfl⟩;rw [<-sm] at y0 tX o1;simp only at y0 tX;obtain ⟨ta3,tc3,etv3⟩:=tX.len;subst etv3;obtain ⟨W1,hW1⟩:=ab (wj.alloc (.cells [Value.int .i64 K3,.slice ta3 T3.length tc3].toArray 85));have hb1:Below wj.heap.size wj W1:=by rw [hW1];exact lD _ _
        have lF:Has W1 wj.heap.size [.int .i64 K3,.slice ta3 T3.length tc3] 85:=by rw [hW1];exact Has.new wj _ _
        have l5:=aa (show wj.alloc (.cells #[Value.int .i64 K3,.slice ta3 T3.length tc3] 85)=W1 from by rw [hW1]);obtain ⟨gp,m3⟩:=ab (wj.heap.size);have pl:=aa m3;rw [<-m3] at lF;have hBj:B<=wj.heap.size:=Nat.le_trans hB HJ.out.2.1.size;have S1:=HJ.out.2.trans (Stp.bel (B:=B) hb1 hBj);obtain ⟨VS,vC⟩:=ab (ZS++(SG.take j).flatMap clB);have nH:VS.length<=770000003+67 * 1000000:=by
         have:∀ (M:List Cl),(∀ d ∈ M,am d=true)->(M.flatMap clB).length<=67 * M.length:=by
          intro M
          induction M with
          |nil=>intro _;simp
          |cons d M ih =>
           intro hd;rw [List.flatMap_cons,List.length_append,List.length_cons];have:=dd (hd d (List.mem_cons_self ..));have:=ih (fun e he=>hd e (List.mem_cons_of_mem _ he));omega
         have h9:=this (SG.take j) (fun d hd=>by
          obtain ⟨q,hq,rfl⟩:=List.getElem_of_mem hd;rw [List.length_take] at hq;rw [List.getElem_take];have h8:=pS.out q (by omega);have qY:q<SG.length:=by omega
          rw [show SG.getD q zc=SG[q] from by simp [List.getD,List.getElem?_eq_getElem qY]] at h8;rw [h8];exact ue.out (i+q) (by rw [<-HN.out];omega))
         rw [List.length_take] at h9;rw [vC,List.length_append];have:=xh.out;omega
        have pg:=aa (jP B u0 VS K3 (.slice ta3 T3.length tc3) T3 W1 (by rw [vC];exact HJ.out.1.below hb1) (Nat.le_trans hBj hb1.size) (by omega) o1 (tX.below hb1).ints);have HVE:=aa (show VS++clB (K3,T3)=ZS++(SG.take (j+1)).flatMap clB from by
         have vA:j<SG.length:=by rw [xh.out];exact hjm
         have h8:=pS.out j hjm;rw [show SG.getD j zc=SG[j] from by simp [List.getD,List.getElem?_eq_getElem vA],<-sm] at h8;rw [vC,List.take_succ_eq_append_getElem vA,List.flatMap_append,List.flatMap_singleton,h8,List.append_assoc])
        have vx:=aa S1;have z0:=lF.cell 0 _ rfl;have z1:=lF.cell 1 _ rfl;have hjc:j<cc - i:=by omega
        clear sm hb3 tX o1 hW1 hb1 lF m3 S1 vC hat HJ
        go_upto_region 11 with (fail)
        rw [l5.out,<-pl.out];clear y0 y1
        go_wp2_with fail
        refine (pg.out).mono ?_;rintro e w5 ⟨v5,rfl,mE,s5⟩;have HF:=aa (show BOwn w5 B v5 (ZS++(SG.take (j+1)).flatMap clB)/\Stp B w v w5 v5 from ⟨by rw [<-HVE.out];exact mE,vx.out.trans s5⟩);clear mE s5 z0 z1;go_wp2
        go_roundw
        case rel=>exact ⟨j+1,by omega,by go_num,HF⟩
        case measure=>simp [intOf] <;> omega
       ·obtain rfl:j=m:=by omega
        have d5:¬ (j:Int)<(j:Int):=by omega
        have d5b:decide ((j:Int)<(j:Int))=false:=ah (by omega);obtain ⟨q,p9,qY⟩:=HZE2.out;have HF:=aa (show q++aE (L.drop (i+j))=aE L/\BOwn wj B u0 (xs++q)/\Stp B w v wj u0 from ⟨qY,by
         have h1:=HJ.out.1;rw [<-xh.out,List.take_length,p9] at h1;exact h1,HJ.out.2⟩)
        clear p9 qY hjm HJ;go_wp2
        go_roundw
        case rel=>exact ⟨i+j,q,by go_num,by omega,HF⟩
        case measure=>simp [intOf] <;> omega
  ·obtain rfl:i=n:=by omega
   have d1:¬ (i:Int)<(i:Int):=by omega
   have d1b:decide ((i:Int)<(i:Int))=false:=ah (by omega);have HF:=aa (show BOwn wo B u0 (xs++aE L)/\Stp B w v wo u0 from by
    have h1:=HS.out.1;rw [List.drop_of_length_le (by rw [<-HN.out];exact Nat.le_refl _),bD,List.append_nil] at h1;rw [<-h1];exact HS.out.2)
   clear mo HS;go_wp2;go_ret;exact ⟨_,rfl,HF.out.1,HF.out.2⟩
end Go.Proofs.YtechjomepdahiaaDoor
