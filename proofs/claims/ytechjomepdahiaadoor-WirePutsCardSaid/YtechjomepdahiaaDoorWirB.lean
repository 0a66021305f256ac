import Derived.Test.YtechjomepdahiaaDoorZ0
import Derived.Test.YtechjomepdahiaaDoorWirA
set_option maxRecDepth 100000
set_option linter.unusedVariables false
set_option linter.unusedSimpArgs false
set_option maxHeartbeats 3000000
namespace Go.Proofs.YtechjomepdahiaaDoor
open Go.RowKit Go.ChangeShapes Go.WideShapes
theorem bV:∀ (n:Nat) (L:List Cl),L.length<=n->L.length<=1000000->(∀ c ∈ L,am c=true)->(aF L).length<=70 * L.length
 |_,[]=>fun _ _ _=>by rw [bG];simp
 |0,c :: l=>fun h=>by simp only [List.length_cons] at h;omega
 |n+1,c :: l=>fun h hm hr=>by
  have hle:=bY (blk c) l;rw [b8];obtain ⟨k,hk⟩:=ab (av (blk c) l);rw [<-hk] at hle ⊢;simp only [List.length_cons] at h hm;have h1:=aD (show 2 * (k+1)+(if blk c=true then 0 else 1)<2097152 by split <;> omega);have h2:=di (hr c (List.mem_cons_self ..));have h3:∀ (M:List Cl),(∀ d ∈ M,am d=true)->(M.flatMap clB).length<=67 * M.length:=by
   intro M
   induction M with
   |nil=>intro _;simp
   |cons d M ih =>
    intro hd;rw [List.flatMap_cons,List.length_append,List.length_cons];have:=di (hd d (List.mem_cons_self ..));have:=ih (fun e he=>hd e (List.mem_cons_of_mem _ he));omega
  have h4:=h3 (l.take k) (fun d hd=>hr d (List.mem_cons_of_mem _ (List.mem_of_mem_take hd)));have h5:=bV n (l.drop k) (by rw [List.length_drop];omega) (by rw [List.length_drop];omega) (fun d hd=>hr d (List.mem_cons_of_mem _ (List.mem_of_mem_drop hd)));rw [List.length_take] at h4;rw [List.length_drop] at h5;rw [List.length_append,List.length_append,List.length_append,List.length_cons];omega
theorem gG(L:List Cl)(i:Nat)(h:i<L.length):aF (L.drop i)=aA (2 * (av (blk (L.getD i zc)) (L.drop (i+1))+1)+(if blk (L.getD i zc)=true then 0 else 1))++((L.drop i).take (av (blk (L.getD i zc)) (L.drop (i+1))+1)).flatMap clB++aF (L.drop (i+(av (blk (L.getD i zc)) (L.drop (i+1))+1))):=by
 have hx:L.getD i zc=L[i]:=by simp [List.getD,List.getElem?_eq_getElem h]
 have hd:L.drop i=L.getD i zc :: L.drop (i+1):=by rw [hx];exact List.drop_eq_getElem_cons h
 rw [hd,b8,List.drop_drop]
 congr 3
 omega
theorem bW(b:Bool)(L:List Cl)(i:Nat)(h:i<L.length):av b (L.drop i)=if blk (L.getD i zc)=b then av b (L.drop (i+1))+1 else 0:=by
 have hx:L.getD i zc=L[i]:=by simp [List.getD,List.getElem?_eq_getElem h]
 rw [show L.drop i=L.getD i zc :: L.drop (i+1) by rw [hx];exact List.drop_eq_getElem_cons h]
 rfl
theorem jt(B:Nat)(v:Value)(xs:List Int)(Zc:an)(cv:Value)(L:List Cl)(w:World)(hown:BOwn w B v xs)(hB:B<=w.heap.size)(hl:xs.length<=700000000)(ol:L.length<=1000000)(hs:∀ c ∈ L,am c=true)(hc:HeldE cellE Zc w cv L)(hz:∀ b,Zc b->v.ownBlock≠some b):Calls Tryd.prog 52 #[v,cv] w (WAp B v w (xs++aF L)):=by
 obtain ⟨co,cc,rfl⟩:=hc.len;have m8:=(aW hc).2.1;have th:=bV L.length L (Nat.le_refl _) ol hs;have v8:=aa (show (aF L).length<=70000000 from by omega);have r7:=aa (And.intro hc hz);have uz:=aa (show ∀ i,i<L.length->am (L.getD i zc)=true from fun i hi=>hs _ (by rw [show L.getD i zc=L[i] from by simp [List.getD,List.getElem?_eq_getElem hi]];exact List.getElem_mem hi));have HW:=aa (And.intro hown (Stp.refl B w v));obtain ⟨n,hn⟩:=ab (L.length);have HN:=aa hn;rw [<-hn] at m8 ol r7 ⊢;clear th hc hz hs hown hn
 go_enter Tryd.func52,Tryd.ntmps52
 go_wp2
 go_loopw [0,5] (fun bv iv wr=>∃ (i:Nat) (pre:List Int),iv=.int .i64 (i:Int)/\i<=n/\Hid (pre++aF (L.drop i)=aF L/\BOwn wr B bv (xs++pre)/\Stp B w v wr bv)) (fun _ iv _=>n - (intOf iv).toNat)
 case atStart=>exact ⟨0,[],rfl,Nat.zero_le _,aa ⟨by rw [List.drop_zero,List.nil_append],by rw [List.append_nil];exact HW.out.1,HW.out.2⟩⟩
 case round =>
  clear HW;obtain ⟨i,pre,rfl,hi,HS⟩:=hrel;obtain ⟨wo,ro⟩:=ab (wr);subst ro
  by_cases mS:i<n
  ·have d1:(i:Int)<(n:Int):=by omega
   have d1b:decide ((i:Int)<(n:Int))=true:=ag (by omega);have oV:i<L.length:=by rw [<-HN.out];exact mS
   have HCW:=aa (HS.out.2.2.held r7.out.1 r7.out.2);have ut:=aa (aW HCW.out).2.2;obtain ⟨b,off,tv,e0,hb,_,c0,c1,hh⟩:=ut.out i oV;subst e0;obtain ⟨K,hK⟩:=ab ((L.getD i zc).1);rw [<-hK] at c0;obtain ⟨bl,hbl⟩:=ab (blk (L.getD i zc));have xi:(K == 0)=bl:=by rw [hbl,hK];rfl
   have oO:=aa (gG L i oV);have hr1:=bW bl L i oV;rw [<-hbl] at oO;rw [<-hbl,if_pos rfl] at hr1;obtain ⟨k,hk⟩:=ab (av bl (L.drop (i+1)));rw [<-hk] at oO hr1;have xB:i+(k+1)<=n:=by
    have:=bY bl (L.drop (i+1));rw [List.length_drop,<-hk,<-HN.out] at this;omega
   have qW:=aa hr1;have hic:i<cc:=by omega
   clear hK hbl hb c1 hh hr1 hk
   go_upto_region 5 with (fail)
   clear c0
   go_loopw [7] (fun tv wr=>∃ t:Nat,tv=.int .i64 (t:Int)/\i<=t/\t<=n/\Hid (k+1=(t - i)+av bl (L.drop t))/\wr=wo) (fun tv _=>n - (intOf tv).toNat)
   case atStart=>exact ⟨i,rfl,Nat.le_refl _,by omega,aa (by rw [qW.out];omega),rfl⟩
   case round =>
    obtain ⟨t,rfl,ht1,vu,HT,rfl⟩:=hrel;obtain ⟨wp,tr⟩:=ab (wr);subst tr;obtain ⟨tt,pC⟩:=ab ((decide (t<n) && (blk (L.getD t zc) == bl)));have mi:=aa pC;clear pC qW
    go_upto_region 5 with (fail)
    go_cut [34] from 21 to 34 (fun tv wx=>tv=.bool tt/\wx=wp)
    case first =>
     by_cases htn:t<n
     ·have d3:decide ((t:Int)<(n:Int))=true:=ag (by omega);have d3n:decide (t<n)=true:=ag (by omega);have d4:(t:Int)<(n:Int):=by omega
      obtain ⟨b2,off2,tv2,e2,hb2,_,y0,y1,mQ⟩:=ut.out t (by rw [<-HN.out];exact htn)
      cases e2
      obtain ⟨K2,hK2⟩:=ab ((L.getD t zc).1);have e:tt=((K2 == 0) == bl):=by rw [mi.out,d3n,hK2];rfl
      rw [<-hK2] at y0;have htc:t<cc:=by omega
      subst e;clear mi y1 mQ hb2 hK2 htn;go_wp2;go_meet
      case rel=>exact ⟨by first | rfl | (congr 1;simp),rfl⟩
     ·have qh:t=n:=by omega
      have d3:decide ((t:Int)<(n:Int))=false:=ah (by omega);have d4:¬ (t:Int)<(n:Int):=by omega
      have e:tt=false:=by rw [mi.out,qh,decide_eq_false (Nat.lt_irrefl _)];rfl
      subst e;clear mi qh htn;go_wp2;go_meet
      case rel=>exact ⟨rfl,rfl⟩
    case rest =>
     obtain ⟨rfl,rfl⟩:=hcut;obtain ⟨wq,oe⟩:=ab (wc);subst oe
     cases tt with
     |true =>
      have e:=mi.out.symm;rw [Bool.and_eq_true,decide_eq_true_eq,beq_iff_eq] at e;have htN:=e.1;have qY:=aa (show k+1=(t+1 - i)+av bl (L.drop (t+1)) from by
       have h1:=HT.out;rw [bW bl L t (by rw [<-HN.out];exact e.1),if_pos e.2] at h1;omega)
      clear e mi HT;go_wp2
      go_roundw
      case rel=>exact ⟨t+1,by go_num,by omega,by omega,qY,trivial⟩
      case measure=>simp [intOf] <;> omega
     |false =>
      have rA:t=i+(k+1):=by
       have h1:=HT.out;have h2:av bl (L.drop t)=0:=by
        rcases Nat.lt_or_ge t n with h | h
        ·have e:=mi.out;rw [decide_eq_true h,Bool.true_and] at e;rw [bW bl L t (by rw [<-HN.out];exact h),if_neg (beq_eq_false_iff_ne.1 e.symm)]
        ·rw [List.drop_of_length_le (by rw [<-HN.out];exact h)];rfl
       omega
      clear HT mi vu;obtain ⟨m,hm⟩:=ab (k+1);rw [<-hm] at oO rA xB;have wa:1<=m:=by omega
      clear hm ht1;subst rA;obtain ⟨fl,mD⟩ : ∃ fl:Nat,fl=(if bl=true then 0 else 1):=⟨_,rfl⟩;have qN:=aa (cw (!bl) 1 wq);have uG:(if (!bl)=true then (1:Int) else 0)=(fl:Int):=by rw [mD];cases bl <;> rfl
      rw [uG] at qN;rw [<-mD] at oO;have pV:fl<=1:=by rw [mD];split <;> omega
      have rs:IntKind.i64.wrap (((i+m:Nat):Int) - (i:Int))=(m:Int):=by rw [IntKind.wrap_i64];omega
      have hwm2:IntKind.i64.wrap (2 * (m:Int))=((2 * m:Nat):Int):=by rw [IntKind.wrap_i64];omega
      have hwf:IntKind.i64.wrap (fl:Int)=(fl:Int):=by rw [IntKind.wrap_i64];omega
      have xa:IntKind.i64.wrap (((2 * m:Nat):Int)+(fl:Int))=((2 * m+fl:Nat):Int):=by rw [IntKind.wrap_i64];omega
      have hpre:pre.length<=70000000:=by
       have h1:=congrArg List.length HS.out.1;rw [List.length_append] at h1;have:=v8.out;omega
      have hB3:B<=wq.heap.size:=Nat.le_trans hB HS.out.2.2.1.size;obtain ⟨YS,ni⟩:=ab (xs++pre);have ue:YS.length<=770000000:=by rw [ni,List.length_append];omega
      have oM:=aa (eH B u0 YS (2 * m+fl) wq (by rw [ni];exact HS.out.2.1) hB3 (by omega) (by omega));obtain ⟨NL,qs⟩:=ab (aA (2 * m+fl));have mA:=(aD (show 2 * m+fl<2097152 by omega)).2;rw [<-qs] at oM oO mA;have xL:=aa ni;clear uG mD qs ni;have himn:i<=i+m:=by omega
      have himc:i+m<=cc:=by omega
      have himI:(i:Int)<=((i+m:Nat):Int):=by omega
      have himC:((i+m:Nat):Int)<=(cc:Int):=by omega
      go_upto_region 7 with (fail)
      go_wp2_with fail
      refine qN.out.mono ?_;rintro e w3 ⟨rfl,rfl⟩
      go_wp2_with fail
      rw [show (2 * ((i:Int)+(m:Int) - (i:Int))+(fl:Int))=((2 * m+fl:Nat):Int) from by omega];refine oM.out.mono ?_;rintro e w4 ⟨v4,rfl,mY,s4⟩;have uv:=aa (HS.out.2.2.trans s4);obtain ⟨ZS,qG⟩:=ab (YS++NL);rw [<-qG] at mY;have hzl:ZS.length<=770000003:=by rw [qG,List.length_append];omega
      have oY:=aa mY;obtain ⟨SG,vX⟩:=ab ((L.drop i).take m);rw [<-vX] at oO;have hsgl:SG.length=m:=by rw [vX,List.length_take,List.length_drop,<-HN.out];omega
      have pK:=aa (show ∀ j,j<m->SG.getD j zc=L.getD (i+j) zc from fun j hj=>by rw [vX,jY,if_pos hj,jZ]);have yh:=aa hsgl;have HZE:=aa (show ZS++SG.flatMap clB++aF (L.drop (i+m))=xs++aF L from by
       rw [<-HS.out.1,oO.out,qG,xL.out];simp only [List.append_assoc])
      have HZE2:=aa (show ∃ q,ZS++SG.flatMap clB=xs++q/\q++aF (L.drop (i+m))=aF L from ⟨pre++NL++SG.flatMap clB,by rw [qG,xL.out];simp only [List.append_assoc],by rw [<-HS.out.1,oO.out];simp only [List.append_assoc]⟩);clear mY s4 qG vX hsgl oM qN oO HS xL ue rs hwm2 hwf xa;go_wp2;rw [show i+m - i=m from Nat.add_sub_cancel_left i m];clear himn himI himC v8
      go_loopw [0,53] (fun bv jv wr=>∃ j:Nat,j<=m/\jv=.int .i64 (j:Int)/\Hid (BOwn wr B bv (ZS++(SG.take j).flatMap clB)/\Stp B w v wr bv)) (fun _ jv _=>m - (intOf jv).toNat)
      case atStart=>exact ⟨0,Nat.zero_le _,rfl,aa ⟨by rw [List.take_zero,List.flatMap_nil,List.append_nil];exact oY.out,uv.out⟩⟩
      case round =>
       clear oY uv;obtain ⟨j,hj,rfl,HJ⟩:=hrel;obtain ⟨wj,uy⟩:=ab (wr);subst uy
       by_cases hjm:j<m
       ·have d5:(j:Int)<(m:Int):=by omega
        have d5b:decide ((j:Int)<(m:Int))=true:=ag (by omega);have HCJ:=aa (HJ.out.2.held r7.out.1 r7.out.2);obtain ⟨b3,off3,tv3,e3,hb3,_,y0,y1,uX⟩:=(aW HCJ.out).2.2 (i+j) (by rw [<-HN.out];omega)
        cases e3
        have hat:∀ d:Nat,off+(i+j) * 2+d=off+i * 2+j * 2+d:=fun d=>by omega
        have y0:wj.cell? ⟨b,off+i * 2+j * 2,none⟩=some (.int .i64 (L.getD (i+j) zc).1):=by have h:=hat 0;rw [Nat.add_zero,Nat.add_zero] at h;rw [<-h];exact y0
        have y1:wj.cell? ⟨b,off+i * 2+j * 2+1,none⟩=some tv3:=by rw [<-hat 1];exact y1
        have pL:=uz.out (i+j) (by rw [<-HN.out];omega);obtain ⟨⟨K3,T3⟩,tE⟩ : ∃ y,y=L.getD (i+j) zc:=⟨_,rfl⟩;rw [<-tE] at y0 uX pL;simp only at y0 uX;obtain ⟨ta3,tc3,etv3⟩:=uX.len;subst etv3;obtain ⟨W1,hW1⟩:=ab (wj.alloc (.cells [Value.int .i64 K3,.slice ta3 T3.length tc3].toArray 85));have hb1:Below wj.heap.size wj W1:=by rw [hW1];exact l7 _ _
        have l8:Has W1 wj.heap.size [.int .i64 K3,.slice ta3 T3.length tc3] 85:=by rw [hW1];exact Has.new wj _ _
        have mG:=aa (show wj.alloc (.cells #[Value.int .i64 K3,.slice ta3 T3.length tc3] 85)=W1 from by rw [hW1]);obtain ⟨gp,n8⟩:=ab (wj.heap.size);have pZ:=aa n8;rw [<-n8] at l8;have hBj:B<=wj.heap.size:=Nat.le_trans hB HJ.out.2.1.size;have S1:=HJ.out.2.trans (Stp.bel (B:=B) hb1 hBj);obtain ⟨VS,wh⟩:=ab (ZS++(SG.take j).flatMap clB);have oo:VS.length<=770000003+67 * 1000000:=by
         have:∀ (M:List Cl),(∀ d ∈ M,am d=true)->(M.flatMap clB).length<=67 * M.length:=by
          intro M
          induction M with
          |nil=>intro _;simp
          |cons d M ih =>
           intro hd;rw [List.flatMap_cons,List.length_append,List.length_cons];have:=di (hd d (List.mem_cons_self ..));have:=ih (fun e he=>hd e (List.mem_cons_of_mem _ he));omega
         have h9:=this (SG.take j) (fun d hd=>by
          obtain ⟨q,hq,rfl⟩:=List.getElem_of_mem hd;rw [List.length_take] at hq;rw [List.getElem_take];have h8:=pK.out q (by omega);have rX:q<SG.length:=by omega
          rw [show SG.getD q zc=SG[q] from by simp [List.getD,List.getElem?_eq_getElem rX]] at h8;rw [h8];exact uz.out (i+q) (by rw [<-HN.out];omega))
         rw [List.length_take] at h9;rw [wh,List.length_append];have:=yh.out;omega
        have pX:=aa (kf B u0 VS K3 (.slice ta3 T3.length tc3) T3 W1 (by rw [wh];exact HJ.out.1.below hb1) (Nat.le_trans hBj hb1.size) (by omega) pL (uX.below hb1).ints);have HVE:=aa (show VS++clB (K3,T3)=ZS++(SG.take (j+1)).flatMap clB from by
         have wG:j<SG.length:=by rw [yh.out];exact hjm
         have h8:=pK.out j hjm;rw [show SG.getD j zc=SG[j] from by simp [List.getD,List.getElem?_eq_getElem wG],<-tE] at h8;rw [wh,List.take_succ_eq_append_getElem wG,List.flatMap_append,List.flatMap_singleton,h8,List.append_assoc])
        have wE:=aa S1;have z0:=l8.cell 0 _ rfl;have z1:=l8.cell 1 _ rfl;have hjc:j<cc - i:=by omega
        clear tE hb3 uX pL hW1 hb1 l8 n8 S1 wh hat HJ
        go_upto_region 11 with (fail)
        rw [mG.out,<-pZ.out];clear y0 y1
        go_wp2_with fail
        refine (pX.out).mono ?_;rintro e w5 ⟨v5,rfl,nj,s5⟩;have HF:=aa (show BOwn w5 B v5 (ZS++(SG.take (j+1)).flatMap clB)/\Stp B w v w5 v5 from ⟨by rw [<-HVE.out];exact nj,wE.out.trans s5⟩);clear nj s5 z0 z1;go_wp2
        go_roundw
        case rel=>exact ⟨j+1,by omega,by go_num,HF⟩
        case measure=>simp [intOf] <;> omega
       ·obtain rfl:j=m:=by omega
        have d5:¬ (j:Int)<(j:Int):=by omega
        have d5b:decide ((j:Int)<(j:Int))=false:=ah (by omega);obtain ⟨q,qF,rX⟩:=HZE2.out;have HF:=aa (show q++aF (L.drop (i+j))=aF L/\BOwn wj B u0 (xs++q)/\Stp B w v wj u0 from ⟨rX,by
         have h1:=HJ.out.1;rw [<-yh.out,List.take_length,qF] at h1;exact h1,HJ.out.2⟩)
        clear qF rX hjm HJ;go_wp2
        go_roundw
        case rel=>exact ⟨i+j,q,by go_num,by omega,HF⟩
        case measure=>simp [intOf] <;> omega
  ·obtain rfl:i=n:=by omega
   have d1:¬ (i:Int)<(i:Int):=by omega
   have d1b:decide ((i:Int)<(i:Int))=false:=ah (by omega);have HF:=aa (show BOwn wo B u0 (xs++aF L)/\Stp B w v wo u0 from by
    have h1:=HS.out.1;rw [List.drop_of_length_le (by rw [<-HN.out];exact Nat.le_refl _),bG,List.append_nil] at h1;rw [<-h1];exact HS.out.2)
   clear mS HS;go_wp2;go_ret;exact ⟨_,rfl,HF.out.1,HF.out.2⟩
end Go.Proofs.YtechjomepdahiaaDoor
