import Derived.Test.YtechjomepdahiaaDoorZ0
import Derived.Test.YtechjomepdahiaaDoorWirU
import Derived.Test.YtechjomepdahiaaDoorMg5
import Derived.Test.YtechjomepdahiaaDoorMg1
import Derived.Test.YtechjomepdahiaaDoorCards
import Derived.Test.YtechjomepdahiaaDoorTie
import Derived.ProofKit
import Derived.Lib.MinMax
import Derived.Deep.Cut
set_option maxRecDepth 100000
set_option linter.unusedVariables false
set_option linter.unusedSimpArgs false
set_option maxHeartbeats 8000000
namespace Go.Proofs.YtechjomepdahiaaDoor.lawWireCuts
open Go.ChangeShapes Go.WideShapes Go.ChangeAt Go.RowKit
theorem walkN(W:World)(sa:Nat->Addr)(hs:Sents W sa)(v:Vw)(lv:Value)(nH:HeldE lineE (fun _=>True) W lv v.L)(h0:(Lit.int .i64 v.w).wf=true)(h1:(Lit.int .i64 v.h).wf=true)(hr:∀ l ∈ v.L,l.1.length * 32<=reachBytes)(at_ c:Int)(hc0:0<=c/\c<=255):Calls Tryd.prog 6 #[.agg #[.int .i64 v.w,.int .i64 v.h,lv,.int .i64 v.r,.int .i64 v.c,.bool v.pd,.bool v.au],.int .i64 at_,.int .u8 c] W (Yes W):=by
 have sL:=jG nH h0 h1;have oQ:∀ k,k<v.L.length->(v.L.getD k zl).1.length<=4398046511104:=fun k hk=>by
  have h:=hr (v.L.getD k zl) (by rw [List.getD_eq_getElem?_getD,List.getElem?_eq_getElem hk];exact List.getElem_mem hk);have hq:reachBytes=140737488351232:=rfl;rw [hq] at h;omega
 obtain ⟨lo,lc,rfl⟩:=nH.len;obtain ⟨nl,l9⟩:=ab (v.L.length);rw [<-l9] at nH sL ⊢;have nA:=aa (fun (w':World) (b:Below W.heap.size W w')=>show Calls Tryd.prog 17 #[.agg #[.int .i64 v.w,.int .i64 v.h,.slice lo nl lc,.int .i64 v.r,.int .i64 v.c,.bool v.pd,.bool v.au]] w' (Gives w' (.bool (dO v))) from f9 v (.slice lo nl lc) w' (nH.below b) oQ);have tz:=aa (fun (w':World) (b:Below W.heap.size W w')=>f8 sa w' (jE (hs.below b)));have uf:=aa (fun (w':World) (b:Below W.heap.size W w')=>show Calls Tryd.prog 19 #[.agg #[.int .i64 v.w,.int .i64 v.h,.slice lo nl lc,.int .i64 v.r,.int .i64 v.c,.bool v.pd,.bool v.au]] w' (Gives w' (.bool (ax v))) from fM v (.slice lo nl lc) w' ⟨sL.1.below b,sL.2⟩);have pK:=aa (fun (h:ax v=true) (w':World) (b:Below W.heap.size W w')=>show Calls Tryd.prog 23 #[.agg #[.int .i64 v.w,.int .i64 v.h,.slice lo nl lc,.int .i64 v.r,.int .i64 v.c,.bool v.pd,.bool v.au]] w' (iH w' (aL v)) from iD v (.slice lo nl lc) w' ⟨sL.1.below b,sL.2⟩ h);have HS:=aa hs;obtain ⟨W1,hW1⟩:=ab (W.alloc (.cells [Value.int .i64 v.w,.int .i64 v.h,.slice lo nl lc,.int .i64 v.r,.int .i64 v.c,.bool v.pd,.bool v.au].toArray 44));have b1:Below W.heap.size W W1:=by rw [hW1];exact lD _ _
 obtain ⟨gv,m8⟩:=ab (W.heap.size);have lF:Has W1 gv [Value.int .i64 v.w,.int .i64 v.h,.slice lo nl lc,.int .i64 v.r,.int .i64 v.c,.bool v.pd,.bool v.au] 44:=by rw [hW1,m8];exact Has.new W _ _
 have mq:=aa b1;have mG:=aa lF;have l5:=aa hW1.symm;have oq:=aa m8.symm;clear sL oQ nH h0 h1 hr hs hW1 b1 m8 lF l9
 cases hG:dO v with
 |true =>
  rw [hG] at nA;clear hG
  go_enter Tryd.func6,Tryd.ntmps6
  go_upto_region 1 with (fail)
  rw [l5.out,oq.out];clear l5 oq
  go_wp2_with fail
  refine (tz.out _ mq.out).mono ?_;rintro e w1 ⟨rfl,b1⟩;have lS:=aa (mG.out.below b1 mG.out.lt);have l2:=aa (mq.out.trans (b1.mono mq.out.size));clear b1 mG;have q0:=lS.out.cell 0 _ rfl;have q1:=lS.out.cell 1 _ rfl;have q2:=lS.out.cell 2 _ rfl;have q3:=lS.out.cell 3 _ rfl;have q4:=lS.out.cell 4 _ rfl;have q5:=lS.out.cell 5 _ rfl;have q6:=lS.out.cell 6 _ rfl
  go_wp2_with fail
  refine (nA.out _ l2.out).mono ?_;rintro e w2 ⟨rfl,b2⟩;have mv:=aa (l2.out.trans (b2.mono l2.out.size));clear b2
  go_wp2_with fail
  refine (tz.out _ mv.out).mono ?_;rintro e w3 ⟨rfl,b3⟩;have HF:=aa (mv.out.trans (b3.mono mv.out.size));clear b3;go_wp2;go_ret;exact ⟨ae,HF.out⟩
 |false =>
  rw [hG] at nA
  cases hR:ax v with
  |false =>
   rw [hR] at uf;clear hG hR
   go_enter Tryd.func6,Tryd.ntmps6
   go_upto_region 1 with (fail)
   rw [l5.out,oq.out];clear l5 oq
   go_wp2_with fail
   refine (tz.out _ mq.out).mono ?_;rintro e w1 ⟨rfl,b1⟩;have lS:=aa (mG.out.below b1 mG.out.lt);have l2:=aa (mq.out.trans (b1.mono mq.out.size));clear b1 mG;have q0:=lS.out.cell 0 _ rfl;have q1:=lS.out.cell 1 _ rfl;have q2:=lS.out.cell 2 _ rfl;have q3:=lS.out.cell 3 _ rfl;have q4:=lS.out.cell 4 _ rfl;have q5:=lS.out.cell 5 _ rfl;have q6:=lS.out.cell 6 _ rfl
   go_wp2_with fail
   refine (nA.out _ l2.out).mono ?_;rintro e w2 ⟨rfl,b2⟩;have mv:=aa (l2.out.trans (b2.mono l2.out.size));have ob:=aa (lS.out.below b2 lS.out.lt);clear b2 lS;clear q0 q1 q2 q3 q4 q5 q6;have q0:=ob.out.cell 0 _ rfl;have q1:=ob.out.cell 1 _ rfl;have q2:=ob.out.cell 2 _ rfl;have q3:=ob.out.cell 3 _ rfl;have q4:=ob.out.cell 4 _ rfl;have q5:=ob.out.cell 5 _ rfl;have q6:=ob.out.cell 6 _ rfl
   go_wp2_with fail
   refine (uf.out _ mv.out).mono ?_;rintro e w2 ⟨rfl,b2⟩;have lW:=aa (mv.out.trans (b2.mono mv.out.size));clear b2
   go_wp2_with fail
   refine (tz.out _ lW.out).mono ?_;rintro e w3 ⟨rfl,b3⟩;have HF:=aa (lW.out.trans (b3.mono lW.out.size));clear b3;go_wp2;go_ret;exact ⟨ae,HF.out⟩
  |true =>
   obtain ⟨nJ,nx⟩:=g6 hR hG;have qD:=fun (u:Vw) (k:Nat) (h:ax u=true)=>jF (k:=k) hR h
   have hnm:=fun (u:Vw) (h:ax u=true)=>kq hR h c
   have vV:=aa (et v);have pK:=aa (pK.out hR);rw [hR] at uf;obtain ⟨P,hP⟩:=ab (aL v);rw [<-hP] at nJ nx vV pK;have n8:=aa (show ∀ (u:Vw) (k:Nat),ax u=true->k<P.length->aL u=P.take k->False from fun u k h1 h2 h3=>qD u k h1 (by rw [<-hP];exact h2) (by rw [<-hP];exact h3));have HNM:=aa (show ∀ (u:Vw),ax u=true->aL u=P++[c]->False from fun u h1 h2=>hnm u h1 (by rw [<-hP];exact h2));clear hG hR qD hnm hP;obtain ⟨n,hn⟩:=ab (P.length);have HN:=aa hn;rw [<-hn] at nJ nx;obtain ⟨y,k,e1,e2,e3,e4,e5,uF⟩:=la at_ n nJ nx;have e6:((n:Int) == 0)=false:=by rw [beq_eq_false_iff_ne];omega
   clear hn
   go_enter Tryd.func6,Tryd.ntmps6
   go_upto_region 1 with (fail)
   rw [l5.out,oq.out];clear l5 oq
   go_wp2_with fail
   refine (tz.out _ mq.out).mono ?_;rintro e w1 ⟨rfl,b1⟩;have lS:=aa (mG.out.below b1 mG.out.lt);have l2:=aa (mq.out.trans (b1.mono mq.out.size));clear b1 mG;have q0:=lS.out.cell 0 _ rfl;have q1:=lS.out.cell 1 _ rfl;have q2:=lS.out.cell 2 _ rfl;have q3:=lS.out.cell 3 _ rfl;have q4:=lS.out.cell 4 _ rfl;have q5:=lS.out.cell 5 _ rfl;have q6:=lS.out.cell 6 _ rfl
   go_wp2_with fail
   refine (nA.out _ l2.out).mono ?_;rintro e w2 ⟨rfl,b2⟩;have mv:=aa (l2.out.trans (b2.mono l2.out.size));have ob:=aa (lS.out.below b2 lS.out.lt);clear b2 lS;clear q0 q1 q2 q3 q4 q5 q6;have q0:=ob.out.cell 0 _ rfl;have q1:=ob.out.cell 1 _ rfl;have q2:=ob.out.cell 2 _ rfl;have q3:=ob.out.cell 3 _ rfl;have q4:=ob.out.cell 4 _ rfl;have q5:=ob.out.cell 5 _ rfl;have q6:=ob.out.cell 6 _ rfl
   go_wp2_with fail
   refine (uf.out _ mv.out).mono ?_;rintro e w3 ⟨rfl,b3⟩;have lW:=aa (mv.out.trans (b3.mono mv.out.size));have pG:=aa (ob.out.below b3 ob.out.lt);clear b3 ob l2 mq tz nA uf;clear q0 q1 q2 q3 q4 q5 q6;have q0:=pG.out.cell 0 _ rfl;have q1:=pG.out.cell 1 _ rfl;have q2:=pG.out.cell 2 _ rfl;have q3:=pG.out.cell 3 _ rfl;have q4:=pG.out.cell 4 _ rfl;have q5:=pG.out.cell 5 _ rfl;have q6:=pG.out.cell 6 _ rfl
   go_wp2_with fail
   refine (pK.out _ lW.out).mono ?_;rintro e w4 ⟨u,rfl,me,b4⟩;have nL:=aa (lW.out.trans (b4.mono lW.out.size));have nw:HeldE (aV .u8) (fun b=>b<w4.heap.size) w4 u P:=(OwnE.held (OwnE.zone me (Y:=fun _=>True) (fun _ _ _=>trivial)) (fun _ _ _=>trivial)).zone (fun b hb _=>hb);obtain ⟨ao,cap,eu⟩:=nw.len;subst eu;rw [<-HN.out] at nw ⊢;have mu:=nw.spots.2.1;clear q0 q1 q2 q3 q4 q5 q6;clear pG lW mv pK b4 me;have hmc:cap<=9223372036854775807:=by
    obtain ⟨_,_,e,_,hm,_⟩:=nw
    cases e
    exact hm
   cases ao with
   |none =>
    obtain ⟨ea,eb,ec⟩:=nw.nilL;exfalso;have:=HN.out;omega
   |some a =>
    have qa:=nw.part 0 k (Nat.zero_le _) (by rw [<-HN.out];omega) (some a) cap (fun e=>by cases e) (fun b off e _=>by rw [e];simp) (fun _ _ e=>by cases e) (by omega) (by show cap<=9223372036854775807;omega);rw [List.drop_zero,Nat.sub_zero] at qa;have sG:=aa (gb sa (.slice (some a) k cap) (P.take k) w4 (jE (HS.out.below nL.out)) qa (fun x hx=>vV.out x (List.mem_of_mem_take hx)) (by rw [List.length_take];omega));have o7:=aa nw;have sH:k<=cap:=by omega
    clear qa nw
    go_upto_region 5 with (fail)
    go_wp2_with fail
    refine sG.out.mono ?_;rintro e w5 ⟨b5,h5⟩;have h5:e=.returned (.tuple #[.agg #[.int .i64 0,.int .i64 0,.slice none 0 0,.int .i64 0,.int .i64 0,.bool false,.bool false],.iface 186 (.pointer (some (sa 1)))]):=by
     rcases h5 with ⟨V,_,_,_,h1,h2⟩ | ⟨h1,_⟩
     ·exact absurd (n8.out V k h1 (by rw [<-HN.out];exact uF) h2) (fun h=>h)
     ·exact h1
    subst h5;have qZ:=aa (nL.out.trans (b5.mono nL.out.size));have rL:=aa ((o7.out.below b5).zone (Y:=fun b=>b<w4.heap.size) (fun b _ h=>h));have hs5:=b5.size;clear sG b5 o7 nL;obtain ⟨W6,o3⟩:=ab (w5.alloc (.cells [Value.int .i64 0,.int .i64 0,.slice none 0 0,.int .i64 0,.int .i64 0,.bool false,.bool false].toArray 44));have b6:Below w5.heap.size w5 W6:=by rw [o3];exact lD _ _
    have s6:w5.heap.size<W6.heap.size:=by rw [o3];simp
    obtain ⟨W7,uQ⟩:=ab (W6.alloc (.cells #[] 5));have b7:Below W6.heap.size W6 W7:=by rw [uQ];exact lD _ _
    have sP:BOwn W7 W6.heap.size (.slice (some ⟨W6.heap.size,0,none⟩) 0 0) []:=by rw [uQ];exact OwnE.fresh0 W6 5 (Nat.le_refl _)
    have hu7:=(rL.out.below b6).below b7;have qN:=aa (qZ.out.trans ((b6.trans (b7.mono (Nat.le_of_lt s6))).mono qZ.out.size));have hs7:=b7.size;have HB5s:=aa (show W.heap.size<=W6.heap.size from Nat.le_trans qZ.out.size (Nat.le_of_lt s6));have HW6:=aa o3.symm;have HW7:=aa uQ.symm;clear o3 uQ b6 b7 qZ rL
    go_upto_region 6 with (fail)
    rw [HW6.out];have tm:=aa sP;have qi:=aa hu7;clear sP hu7
    go_wp2_with (at_builtin;rw [HW7.out];refine a8 (Z:=fun b=>b<w4.heap.size) rfl (.tmp 42) (.tmp 43) 46 rfl Tryd.underlying46 rfl rfl tm.out qi.out (fun x hx e=>by have:=(tm.out.lt x e).1;have hx:x<w4.heap.size:=hx;omega) (by rw [<-HN.out];simp;omega) hs7 ?_)
    intro v8 w8 ho8 st8;have HO8:=aa ho8;have HB8:=aa (qN.out.trans (st8.1.mono (by have:=qN.out.size;have:=st8.1.size;have:=HB5s.out;omega)));have hz8:=Nat.le_trans hs7 st8.1.size;clear ho8 st8 tm qi
    go_wp2_with (at_builtin;refine dc rfl (.tmp 44) (.tmp 46) 46 rfl Tryd.underlying46 c rfl rfl HO8.out (by rw [<-HN.out];omega) hz8 ?_)
    intro v9 w9 ho9 st9;have xk:=aa (HB8.out.trans (st9.1.mono (by have:=HB5s.out;omega)));have uC:HeldE (aV .u8) (fun b=>b<w9.heap.size) w9 v9 (P++[c]):=(OwnE.held (OwnE.zone ho9 (Y:=fun _=>True) (fun _ _ _=>trivial)) (fun _ _ _=>trivial)).zone (fun b hb _=>hb);obtain ⟨a9,c9,ev9⟩:=uC.len;subst ev9;have sG:=aa (gb sa _ (P++[c]) w9 (jE (HS.out.below xk.out)) uC (aR vV.out (fun x hx=>by rw [List.mem_singleton.1 hx];exact hc0)) (by rw [List.length_append,<-HN.out];simp;omega));rw [List.length_append,<-HN.out] at sG ⊢;clear ho9 st9 uC HO8 HB8
    go_wp2_with fail
    refine sG.out.mono ?_;rintro e w10 ⟨b10,h10⟩;have h10:e=.returned (.tuple #[.agg #[.int .i64 0,.int .i64 0,.slice none 0 0,.int .i64 0,.int .i64 0,.bool false,.bool false],.iface 186 (.pointer (some (sa 1)))]):=by
     rcases h10 with ⟨V,_,_,_,h1,h2⟩ | ⟨h1,_⟩
     ·exact absurd (HNM.out V h1 h2) (fun h=>h)
     ·exact h1
    subst h10;have HB10:=aa (xk.out.trans (b10.mono xk.out.size));obtain ⟨W11,rP⟩:=ab (w10.alloc (.cells [Value.int .i64 0,.int .i64 0,.slice none 0 0,.int .i64 0,.int .i64 0,.bool false,.bool false].toArray 44));have b11:Below w10.heap.size w10 W11:=by rw [rP];exact lD _ _
    have HB11:=aa (HB10.out.trans (b11.mono HB10.out.size));have HCD:=aa (ji sa W11 (HS.out.below HB11.out) 1 (by decide));have HW11:=aa rP.symm;clear sG b10 rP b11
    go_upto_region 7 with (fail)
    rw [HW11.out]
    go_wp2_with fail
    refine HCD.out.mono ?_;rintro e w12 ⟨rfl,rfl⟩
    go_wp2_with fail
    refine HCD.out.mono ?_;rintro e w13 ⟨rfl,rfl⟩;go_wp2;go_ret;exact ⟨ae,HB11.out⟩
theorem walk{H:Type}{enc:TypeId × Value->H}(W:World)(x:Value){bs0:Nat}{d0:DataW H}{p0:List MemPlace}(hx:Value.okWide Tryd.prog W .any bs0 44 x)(h0:DataW.Trod enc Tryd.prog W 0 (fun _=>true) true 44 x d0 p0)(y:Int)(hy:(Lit.int .i64 y).wf=true)(z:Int)(hz:(Lit.int .u8 z).wf=true){d1 d2:DataW H}
  (hL:laidMetH Tryd.prog Rows.wireCutsRow.laid W) (hsz:(DataW.weightsEach Tryd.prog (#[44,3,5].toList++Rows.wireCutsSpec.plain.varTypes Tryd.prog) ([d0,d1,d2]++[])).all (· <= reachBytes)=true):Calls Tryd.prog 6 #[x,.int .i64 y,.int .u8 z] W (Yes W):=by
 obtain ⟨sa,hsa⟩:=fT hL;have hw:∀ z ∈ d0.weights Tryd.prog 44,z<=reachBytes:=by
  simp only [List.all_eq_true,DataW.weightsEach,List.cons_append,List.nil_append] at hsz;intro z hz;exact of_decide_eq_true (hsz z (List.mem_append.2 (.inl hz)))
 obtain ⟨v,lv,rfl,hl,e0,e1,hr⟩:=jD hx h0 hw;exact walkN W sa hsa v lv hl e0 e1 hr y z (by have:=bounds_u8 hz;omega)
theorem door_met(os:Os):laidMetH Tryd.prog Rows.wireCutsRow.laid ((World.doorLaid Tryd.prog 400 os).forCall (fun _ _=>0) ⟨#[],#[.agg #[.int .i64 0,.int .i64 0,.slice none 0 0,.int .i64 0,.int .i64 0,.bool false,.bool false],.int .i64 0,.int .u8 0],[]⟩).memory :=
 laidMetH_of_parts3 (fuel:=8) (laidMet_of_run' 8 (by kernel_rfl) (by kernel_rfl)) (by kernel_rfl) (by kernel_rfl)
theorem lifted(os:Os)(started:os.Started)(H:Type)(enc:TypeId × Value->H) :
  ReturnsInHanded {} Tryd.checked os 6 .any (fun w args=>(Rows.wireCutsSpec.pre enc Tryd.prog Tryd.f6 [] false w args/\laidMetH Tryd.prog Rows.wireCutsRow.laid w)/\sizedMet enc Tryd.prog Tryd.f6 (OpenSpec.ofChange Rows.wireCutsSpec) false w args)
   (Rows.wireCutsSpec.post enc Tryd.prog Tryd.f6 false true false false):=by
 refine jC (C:=Tryd.checked) (tb:=4) (by kernel_rfl) started (by kernel_rfl) Tryd.func6 (by kernel_rfl) (by kernel_rfl) Tryd.underlying4 rfl
  (by rw [Tryd.params6];intro t ht;simp at ht;rcases ht with rfl | rfl | rfl <;> exact ⟨by kernel_rfl,of_decide_eq_true (by kernel_rfl)⟩)
  (by rw [Tryd.params6];intro ds hd;match ds,hd with | [_,_,_],_=>rfl)
  (ChangeSpec.witness_shaped (enc:=enc) (C:=Tryd.checked) (os:=os) (X:=fun w _=>laidMetH Tryd.prog Rows.wireCutsRow.laid w) false (World.doorLaid Tryd.prog 400 os) #[.agg #[.int .i64 0,.int .i64 0,.slice none 0 0,.int .i64 0,.int .i64 0,.bool false,.bool false],.int .i64 0,.int .u8 0] 8 rfl (World.shaped_of_RefB (by kernel_rfl) (by kernel_rfl)) (by kernel_rfl) (by kernel_rfl) (by kernel_rfl) (door_met os)) ?_
 intro W base args ds before hval hA hsz hL;rw [Tryd.params6] at hA hval hsz;obtain ⟨v0,vs0,d0,ds0,p0,q0,hargs,rfl,rfl,h0,r0⟩:=trodAll_cons hA;obtain ⟨v1,vs1,d1,ds1,p1,q1,rfl,rfl,rfl,h1,r1⟩:=trodAll_cons r0;obtain ⟨v2,vs2,d2,ds2,p2,q2,rfl,rfl,rfl,h2,r2⟩:=trodAll_cons r1;obtain ⟨rfl,rfl,rfl⟩:=trodAll_nil r2;obtain rfl:args=#[v0,v1,v2]:=by cases args;simp_all
 obtain ⟨x1,rfl,rfl,rfl,wx1⟩:=open_int Tryd.underlying3 (hval 1 3 v1 rfl rfl) h1;obtain ⟨x2,rfl,rfl,rfl,wx2⟩:=open_int Tryd.underlying5 (hval 2 5 v2 rfl rfl) h2;exact walk W v0 (hval 0 44 v0 rfl rfl) h0 x1 wx1 x2 wx2 hL hsz
theorem and_two{a b:Bool}(ha:a=true)(hb:b=true):(a && b)=true:=by rw [ha,hb];rfl
theorem joined:joinedFacts Tryd.pinned.checked.prog 6 Tryd.f6 Rows.wireCutsSpec Rows.wireCutsRow=true:=by
 unfold joinedFacts
 repeat' (with_reducible refine and_two ?_ ?_)
 all_goals (as_aux_lemma=>kernel_rfl)
theorem said:Rows.WireCutsSaid :=
 OpenClaim.holds_of_wide 6 Tryd.f6 rfl rfl rfl rfl rfl rfl rfl ⟨rfl,rfl,rfl,rfl,rfl⟩ rfl rfl rfl rfl rfl (by kernel_rfl) Tryd.func6 joined
  (of_decide_eq_true (by kernel_rfl)) (by unfold Func.isWrapper;first | (rw [if_pos (by decide +kernel)];kernel_rfl) | (rw [if_neg (by decide +kernel)];exact ⟨rfl,rfl⟩))
  (fun os started H enc _=>lifted os started H enc)
theorem plain (f : FuncId) (fn : Func) (hf : Tryd.pinned.checked.prog.funcNamed "linotype/linotypelaw55.WireCuts" = some f) (hfn : Tryd.pinned.checked.prog.funcs[f]? = some fn) :
  true=Tryd.pinned.checked.prog.looks []/\∀ (j:Nat) t,fn.params[j]? = some t->Tryd.pinned.checked.prog.wantsStandIn t=false:=by
 obtain rfl : f = 6 := Option.some.inj ((show Tryd.prog.funcNamed "linotype/linotypelaw55.WireCuts" = some 6 by kernel_rfl).symm.trans hf) |>.symm
 obtain rfl:fn=Tryd.f6:=(Option.some.inj (Tryd.func6.symm.trans hfn)).symm;refine ⟨by kernel_rfl,fun j t ht=>?_⟩;rw [Tryd.params6] at ht;have hm:t ∈ [44,3,5]:=by simpa using Array.mem_of_getElem? ht
 have hall:([44,3,5].all fun u=>!Tryd.prog.wantsStandIn u)=true:=by kernel_rfl
 exact (show Tryd.prog.wantsStandIn t=false by simpa using List.all_eq_true.1 hall t hm)
theorem card:Rows.WireCutsCardSaid :=
 Claim7.holds_tied_plain_at .later [] _ _ _ _ said (fun _ h=>by cases h) (by kernel_rfl) (fun _ h=>by cases h) wireCuts_row_tie rfl ⟨rfl,rfl⟩ (by kernel_rfl) rfl plain (by kernel_rfl)
#print axioms card
end Go.Proofs.YtechjomepdahiaaDoor.lawWireCuts
