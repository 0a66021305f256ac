import Derived.Test.YthdphijabffpiaaZ0
import Derived.Test.YthdphijabffpiaaMg1
import Derived.Test.YthdphijabffpiaaMg5
import Derived.Sort.CutIn
set_option maxRecDepth 100000
set_option linter.unusedVariables false
set_option linter.unusedSimpArgs false
set_option maxHeartbeats 6000000
namespace Go.Proofs.Ythdphijabffpiaa
open Go.RowKit Go.ChangeShapes Go.WideShapes
attribute [local go_sem] Oper.semAt_some
theorem a8(xs:List Pr):jR xs 0=false:=by
 rw [dL]
 simp [aW]
structure Cu where
 p:Nat × Nat
 v:Value
def eN(x:Cu):Array Value:=#[.int .i64 (x.p.1:Int),x.v]
def XCu(xs:List Int)(lo hi:Nat)(x:Cu)(W:World):Prop:=∃ g,x.v=.slice (some ⟨g,x.p.1,none⟩) (x.p.2 - x.p.1) (x.p.2 - x.p.1)/\lo<=g/\g<hi/\g<W.heap.size/\x.p.1<x.p.2/\x.p.2<=xs.length/\∀ i,i<xs.length->W.cell? ⟨g,i,none⟩=some (.int .i32 (xs.getD i 0))
def clS(xs:List Int):List (Nat × Nat):=aA (jR (ai xs)) xs.length
theorem fR{w:World}{B g n cap:Nat}{t:TypeId}{xs:List Int}(h:w.ownsRow B t 1 (.slice (some ⟨g,0,none⟩) n cap) n (xs.map (Value.int .i32))):B<=g/\g<w.heap.size/\n=xs.length/\n<=cap/\∀ i,i<xs.length->w.cell? ⟨g,i,none⟩=some (.int .i32 (xs.getD i 0)):=by
 have h1:=h.lt g rfl;have hl:xs.length=n:=by have:=h.1;simpa using this
 have hc:n<=cap:=by
  rcases h.2 with ⟨e,_⟩ | ⟨g',cap',cur,e,_,_,hn,_⟩
  ·cases e
  ·simp only [Value.slice.injEq] at e;obtain ⟨_,_,rfl⟩:=e;exact hn
 refine ⟨h1.1,h1.2,hl.symm,hc,fun i hi=>?_⟩;rw [h.cellAt i (by omega)]
 simp [List.getD,List.getElem?_eq_getElem hi]
theorem eO(B:Nat)(v:Value)(xs:List Int)(w:World)(hB:w.cell? ⟨B,0,none⟩=some v)(hx:Held .i32 w v xs)(hn:xs.length<=1000000)(n:Nat)(C:aE) :
  ix Fence.wide n Try.prog 17 #[.pointer (some ⟨B,0,none⟩)] eN (XCu xs) C (fun ps=>ps.map Cu.p=clS xs) (fun _=>True) (fun pre x=>(pre++[x]).map Cu.p <+: clS xs) w:=by
 intro l J Jx W hW hC hJ hJx hY h0;have hB2:=(hW.cell (p:=⟨B,0,none⟩) (World.block_lt_of_cell? _ _ hB)).trans hB;have kk:=aa (cD v xs W (hx.below hW) (by omega));have HC:=aa hC;have HJ:=aa hJ;have HY:=aa hY;have H0:=aa h0;clear hB hx hC hJ hJx hY h0;refine callsIn_of_wp Try.func17 rfl trivial ?_ rfl;simp only [Try.ntmps17,List.size_toArray,List.length_cons,List.length_nil,Nat.reduceAdd,Nat.reduceSub,Array.replicate_succ,Array.replicate_zero,List.push_toArray,List.append_toArray,List.nil_append,List.cons_append]
 gi_wp2_with fail
 first | refine ⟨trivial,(fun h=>absurd h (by decide)),(callsIn_wide.2 (kk.out)).mono ?_⟩ | refine ⟨trivial,(callsIn_wide.2 (kk.out)).mono ?_⟩
 rintro e w1 ⟨v1,rfl,jL,b1⟩
 rcases jL.2 with ⟨rfl,hz⟩ | ⟨g,cap,cur,hv1,_⟩
 ·have hh:=H0.out (w1.heap.size+1) (w1.alloc (.cells #[.bool false,.int .i64 0,.int .u8 0,.int .u8 0,.bool false] 39)) (b1.alloc b1.size _) (by have:=b1.size;omega) (by simp);have HH:=aa hh;have HX:=aa (show clS xs=[] from by unfold clS;rw [hz];rfl);clear hh jL b1
  gi_wp2
  gi_loopw [13] (fun i wr=>i=.int .i64 0/\J (w1.heap.size+1) [] wr) (fun _ _=>0)
  case atStart=>exact ⟨rfl,HH.out⟩
  case round =>
   obtain ⟨rfl,hJs⟩:=hrel;have HJS:=aa hJs;clear hJs
   gi_wp2
   go_end0
   exact ⟨⟨_,rfl⟩,.inl ⟨_,[],by rw [HX.out];rfl,HJS.out⟩⟩
 ·subst hv1;obtain ⟨hg1,hg2,_,hcap,hcs⟩:=fR jL;obtain ⟨m,hm⟩:=ab (xs.length);rw [<-hm] at hcs hcap jL ⊢;have hmn:m<=1000000:=by rw [hm];exact hn
  obtain ⟨W2,hW2⟩:=ab (w1.alloc (.cells #[.bool false,.int .i64 0,.int .u8 0,.int .u8 0,.bool false] 39));have b2:Below w1.heap.size w1 W2:=by rw [hW2];exact iF _ _
  have hat:At W2 w1.heap.size (ai xs) 0:=by rw [hW2];exact Has.new w1 _ _
  obtain ⟨sb,jF⟩:=ab (w1.heap.size);rw [<-jF] at hat;have hs2:W2.heap.size=sb+1:=by rw [hW2,jF];simp
  have kv:=aa hat;have jK:=aa (show g<W2.heap.size/\∀ i,i<m->W2.cell? ⟨g,i,none⟩=some (.int .i32 (xs.getD i 0)) from ⟨by have:=b2.size;omega,fun i hi=>(b2.cell (p:=⟨g,i,none⟩) hg2).trans (hcs i hi)⟩);have HG:=aa (show W.heap.size<=g/\g<sb/\W.heap.size<=sb from ⟨hg1,by rw [jF];exact hg2,by rw [jF];exact b1.size⟩);have lc:=aa (H0.out (sb+1) W2 (b1.trans (b2.mono b1.size)) (by rw [jF];have:=b1.size;omega) (by rw [hs2];exact Nat.le_refl _));have jd:=aa hs2;have HM:=aa hm;have HSB:=aa jF;have HCLS:=aa (show clS xs=aA (jR (ai xs)) m from by rw [hm];rfl);clear hcs jL b1 b2 hat hm hg1 hg2 hs2 kk hB2 jF
  gi_upto_region 3 with (fail)
  rw [<-HSB.out,<-hW2];clear hW2
  gi_wp2
  gi_loopw [4,13] (fun fv i wr=>∃ (k:Nat) (pre:List Cu),k<=m/\i=.int .i64 k/\fv=.int .i64 (aI (jR (ai xs)) k:Int)/\Hid (pre.map Cu.p=aC (jR (ai xs)) k)/\Hid (J (sb+1) pre wr)/\Hid (At wr sb (ai xs) k)/\Hid (g<wr.heap.size/\∀ i,i<m->wr.cell? ⟨g,i,none⟩=some (.int .i32 (xs.getD i 0)))/\Hid (sb+1<=wr.heap.size)) (fun _ i _=>m - (intOf i).toNat)
  case atStart=>exact ⟨0,[],Nat.zero_le _,rfl,rfl,aa rfl,lc,kv,jK,aa (by rw [jd.out];exact Nat.le_refl _)⟩
  case round =>
   obtain ⟨k,pre,hk,rfl,rfl,HP,jS,kv,jK,kN⟩:=hrel
   by_cases hlt:k<m
   ·have c0:=jK.out.2 k hlt;have hst:=fun w' h=>hM w' sb (ai xs) k h
    rw [bR (show k<xs.length by rw [<-HM.out];exact hlt)] at hst;obtain ⟨r,hr⟩:=ab (xs.getD k 0);rw [<-hr] at c0 hst;have HST:=aa hst;have kZ:=eQ (jR (ai xs)) k;have kd:=aa (fun h=>bS (jR (ai xs)) k h);have jx:=aa (bK (jR (ai xs)) k);have kB:=aa (bv (jR (ai xs)) k);obtain ⟨f,hf⟩:=ab (aI (jR (ai xs)) k);rw [<-hf] at kZ kd jx kB ⊢;clear hr hst hf
    gi_wp2_with fail
    first | refine ⟨trivial,(fun h=>absurd h (by decide)),(callsIn_wide.2 (c6 r _)).mono ?_⟩ | refine ⟨trivial,(callsIn_wide.2 (c6 r _)).mono ?_⟩
    rintro e w3 ⟨rfl,b3⟩;rw [fT r];have HJ3:=aa (HJ.out _ _ _ _ jS.out (.ofBelow b3));have HA3:=aa (show At w3 sb (ai xs) k from Has.below kv.out b3 kv.out.lt);have k4:=aa (show g<w3.heap.size/\∀ i,i<m->w3.cell? ⟨g,i,none⟩=some (.int .i32 (xs.getD i 0)) from ⟨Nat.lt_of_lt_of_le jK.out.1 b3.size,fun i hi=>(b3.cell (p:=⟨g,i,none⟩) jK.out.1).trans (jK.out.2 i hi)⟩);have kP:=aa (Nat.le_trans kN.out b3.size);clear b3 c0
    gi_wp2_with fail
    first | refine ⟨trivial,(fun h=>absurd h (by decide)),(callsIn_wide.2 (HST.out _ HA3.out)).mono ?_⟩ | refine ⟨trivial,(callsIn_wide.2 (HST.out _ HA3.out)).mono ?_⟩
    rintro e w4 ⟨rfl,hat4,hb4⟩;have u4:Upd (fun b=>b=sb) w3 w4:=.ofBut hb4;have HJ4:=aa (HJ.out _ _ _ _ HJ3.out (u4.mono (fun b _ e=>by have:=HG.out;omega)));have HA4:=aa hat4;have j2:=aa (show g<w4.heap.size/\∀ i,i<m->w4.cell? ⟨g,i,none⟩=some (.int .i32 (xs.getD i 0)) from ⟨Nat.lt_of_lt_of_le k4.out.1 u4.size,fun i hi=>(u4.keep.cell k4.out.1 (by have:=HG.out;omega)).trans (k4.out.2 i hi)⟩);have kD:=aa (Nat.le_trans kP.out u4.size);clear hb4 u4 hat4
    by_cases hgo:jR (ai xs) k=true\/k=0
    ·have HF:=aa (show aI (jR (ai xs)) (k+1)=f from by rw [jx.out,if_pos hgo]);have HD:=aa (show aC (jR (ai xs)) (k+1)=aC (jR (ai xs)) k from by rw [kB.out,if_pos hgo]);have hway:jR (ai xs) k=true\/(jR (ai xs) k=false/\((k:Int) == 0)=true):=by
      rcases hgo with h | h
      ·exact .inl h
      ·subst h;exact .inr ⟨a8 _,rfl⟩
     clear hgo
     rcases hway with h | ⟨h,h2⟩
     all_goals
      rw [h]
      gi_wp2
      go_roundw
      case rel=>exact ⟨k+1,pre,by omega,by go_num,by rw [HF.out],aa (by rw [HD.out];exact HP.out),HJ4,HA4,j2,kD⟩
      case measure=>simp [intOf] <;> omega
    ·have hj:jR (ai xs) k=false:=by simpa using fun h=>hgo (.inl h)
     have jE:((k:Int) == 0)=false:=by rw [beq_eq_false_iff_ne];intro h;exact hgo (.inr (by omega))
     have kL:=kd.out (by omega);obtain ⟨fn,tmps,assign,body,hy,hR⟩:=HY.out (sb+1) pre ⟨(f,k),.slice (some ⟨g,f,none⟩) (k - f) (k - f)⟩ w4 (by have:=HG.out;omega) kD.out HJ4.out ⟨g,rfl,HG.out.1,by have:=HG.out;omega,j2.out.1,kL,by rw [<-HM.out];exact hk,by rw [<-HM.out];exact j2.out.2⟩ (by
      rw [List.map_append,HP.out,HCLS.out];have h2:=gE (jR (ai xs)) (k+1) m (by omega) (by omega);rw [kB.out,if_neg hgo] at h2;exact h2)
     have HF:=aa (show aI (jR (ai xs)) (k+1)=k from by rw [jx.out,if_neg hgo]);have HD:=aa (show aC (jR (ai xs)) (k+1)=aC (jR (ai xs)) k++[(f,k)] from by rw [kB.out,if_neg hgo])
     dsimp only [eN] at hy
     rw [hj];clear hgo hj;have HNS:=aa (show ∀ b,W.heap.size<=b->b<sb+1->¬ (C b\/(w.heap.size<=b/\b<W.heap.size)\/sb+1<=b) from fun b h1 h2 h3=>by
      rcases h3 with h3 | h3 | h3
      ·have:=HC.out b h3;omega
      ·omega
      ·omega)
     gi_wp2
     refine ⟨(fun h=>absurd h (by decide)),hR.mono ?_⟩;rintro e w5 (⟨rfl,kj,iY⟩ | ⟨rfl,jy⟩)
     ·have kQ:=aa kj;have HA5:=aa (show At w5 sb (ai xs) (k+1) from iY.keep.has HA4.out (HNS.out sb HG.out.2.2 (by omega)));have HT5:=aa (show g<w5.heap.size/\∀ i,i<m->w5.cell? ⟨g,i,none⟩=some (.int .i32 (xs.getD i 0)) from ⟨Nat.lt_of_lt_of_le j2.out.1 iY.size,fun i hi=>(iY.keep.cell j2.out.1 (HNS.out g HG.out.1 (by have:=HG.out;omega))).trans (j2.out.2 i hi)⟩);have j7:=aa (Nat.le_trans kD.out iY.size);clear kj iY
      gi_wp2
      go_roundw
      case rel=>exact ⟨k+1,_,by omega,by go_num,by rw [HF.out],aa (by rw [HD.out,List.map_append,HP.out];rfl),kQ,HA5,HT5,j7⟩
      case measure=>simp [intOf] <;> omega
     ·have kG:=aa jy;clear jy
      gi_wp2
      refine bodyPost_ret (results_none rfl _ _ _) rfl ?_;exact ⟨⟨_,rfl⟩,.inr ⟨_,_,trivial,kG.out⟩⟩
   ·obtain rfl:k=m:=by omega
    have kZ:=eQ (jR (ai xs)) k;have kd:=aa (fun h=>bS (jR (ai xs)) k h);have k8:=aa (show clS xs=if k=0 then [] else aC (jR (ai xs)) k++[(aI (jR (ai xs)) k,k)] from HCLS.out);obtain ⟨f,hf⟩:=ab (aI (jR (ai xs)) k);rw [<-hf] at kZ kd k8 ⊢;clear hf
    by_cases jE:k=0
    ·have HZ:=aa (show pre.map Cu.p=clS xs from by rw [HP.out,k8.out,if_pos jE,jE];rfl);have hd:decide ((0:Int)<k)=false:=ah (by omega);have hdn:decide (0<k)=false:=ah (by omega);clear jE
     gi_wp2
     go_end0
     exact ⟨⟨_,rfl⟩,.inl ⟨_,pre,HZ.out,jS.out⟩⟩
    ·have kL:=kd.out (by omega);have hd:decide ((0:Int)<k)=true:=ag (by omega);have HALL:=aa (show (pre++[(⟨(f,k),.slice (some ⟨g,f,none⟩) (k - f) (k - f)⟩ : Cu)]).map Cu.p=clS xs from by rw [List.map_append,HP.out,k8.out,if_neg jE];rfl);obtain ⟨fn,tmps,assign,body,hy,hR⟩:=HY.out (sb+1) pre ⟨(f,k),.slice (some ⟨g,f,none⟩) (k - f) (k - f)⟩ wr (by have:=HG.out;omega) kN.out jS.out ⟨g,rfl,HG.out.1,by have:=HG.out;omega,jK.out.1,kL,by rw [<-HM.out];exact Nat.le_refl _,by rw [<-HM.out];exact jK.out.2⟩ (by rw [HALL.out];exact List.prefix_refl _)
     dsimp only [eN] at hy
     clear jE
     gi_wp2
     refine ⟨(fun h=>absurd h (by decide)),hR.mono ?_⟩;rintro e w5 (⟨rfl,kj,iY⟩ | ⟨rfl,jy⟩)
     ·have kQ:=aa kj;clear kj iY
      gi_wp2
      go_end0
      exact ⟨⟨_,rfl⟩,.inl ⟨_,_,HALL.out,kQ.out⟩⟩
     ·have kG:=aa jy;clear jy
      gi_wp2
      go_end0
      exact ⟨⟨_,rfl⟩,.inr ⟨_,_,trivial,kG.out⟩⟩
end Go.Proofs.Ythdphijabffpiaa
