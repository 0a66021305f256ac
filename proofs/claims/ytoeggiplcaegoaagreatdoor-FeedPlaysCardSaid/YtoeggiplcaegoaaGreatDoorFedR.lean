import Derived.Test.YtoeggiplcaegoaaGreatDoorZ0
import Derived.Test.YtoeggiplcaegoaaGreatDoorMg9
import Derived.Test.YtoeggiplcaegoaaGreatDoorMg8
import Derived.Test.YtoeggiplcaegoaaGreatDoorPlcX
import Derived.Test.YtoeggiplcaegoaaGreatDoorMg5
import Derived.Test.YtoeggiplcaegoaaGreatDoorMg4
set_option maxRecDepth 100000
set_option linter.unusedVariables false
set_option linter.unusedSimpArgs false
set_option maxHeartbeats 8000000
namespace Go.Proofs.YtoeggiplcaegoaaGreatDoor
open Go.RowKit Go.ChangeShapes Go.WideShapes
def okT(xs:List Int):Prop:=∀ x ∈ xs,aS x=x
theorem okT.map{t:List Int}(h:okT t):t.map aS=t:=by
 conv=>rhs;rw [<-List.map_id t]
 exact List.map_congr_left h
theorem okT.num{t:List Int}(h:okT t):eB t (clN t)=t.take 16:=by
 unfold eB clN;have e:t.take (min t.length 16)=t.take 16:=by
  by_cases hl:t.length<=16
  ·rw [Nat.min_eq_left hl,List.take_of_length_le (Nat.le_refl _),List.take_of_length_le hl]
  ·rw [Nat.min_eq_right (by omega)]
 rw [e];have h2:okT (t.take 16):=fun x hx=>h x (List.mem_of_mem_take hx)
 exact h2.map
theorem okT.wide{t:List Int}(h:okT t)(hs:bL (t.getD 0 0)=false):wdC t=clW t:=by
 unfold wdC clW;rw [if_neg (by rw [hs];decide)];unfold j7 gwI cwW;rw [h.map];have hl:(t.take 16).length=clN t:=by unfold clN;rw [List.length_take,Nat.min_comm]
 rw [hl,mH (ys:=t) (qs:=aq t) (clN t) fun i hi=>by
  have hi16:i<16:=by unfold clN at hi;omega
  refine ⟨lA _ _ _ _ hi16,?_⟩;unfold aq;rw [List.map_take];exact lA _ _ _ _ hi16]
theorem yt(wd:Nat)(p:Pn){t:List Int}(h:okT t)(hs:bL (t.getD 0 0)=false):putC wd p t=uw wd p (wdC t) (t.take 16):=by
 unfold putC;rw [if_neg (by rw [hs];decide),h.wide hs,h.num]
theorem r6{xs:List Int}(h:okT xs):∀ t ∈ bj xs,okT t:=fun t ht x hx=>by
 unfold bj at ht;obtain ⟨q,_,rfl⟩:=List.mem_map.1 ht;exact h x (List.mem_of_mem_drop (List.mem_of_mem_take hx))
theorem qd{xs:List Int}:∀ t ∈ bj xs,0<t.length/\t.length<=xs.length:=fun t ht=>by
 unfold bj at ht;obtain ⟨q,hq,rfl⟩:=List.mem_map.1 ht;have:=jN _ _ q hq;rw [fc xs q (by omega) (by omega)];omega
theorem qe{xs:List Int}(h:bI xs):∀ t ∈ bj xs,bI t:=fun t ht i hi=>by
 unfold bj at ht;obtain ⟨q,hq,rfl⟩:=List.mem_map.1 ht;have h0:=jN _ _ q hq;rw [fc xs q (by omega) (by omega)] at hi;have e:(bu xs q).getD i 0=xs.getD (q.1+i) 0:=by
  unfold bu
  simp [List.getD,List.getElem?_take,hi]
 rw [e];exact h _ (by omega)
theorem kd{Z:an}{w:World}{ao:Option Addr}{n cap:Nat}{L:List (List Int)}(h:HeldE rowE Z w (.slice ao n cap) L):n=L.length/\n<=cap/\∀ i,i<L.length->∃ b off v,ao=some ⟨b,off,none⟩/\b<w.heap.size/\w.cell? ⟨b,off+i,none⟩=some v/\HeldE (aE .i32) Z w v (L.getD i []):=by
 obtain ⟨h1,h2,h3⟩:=h.spots;refine ⟨h1,h2,fun i hi=>?_⟩;obtain ⟨b,off,rfl,hb,hz,C,hC,v,rfl,hv⟩:=h3 i hi;have h0:=hC 0 (by decide);refine ⟨b,off,v,rfl,hb,?_,hv⟩
 simpa [rowE,slE] using h0
theorem xh(Z:an)(v xv:Value)(p:Pn)(xs:List Int)(w:World)(wd n:Nat)(hv:HeldE lineE Z w v p.L)(hx:HeldE (aE .i32) Z w xv xs)(hZ:∀ b,Z b->b<w.heap.size)(hs:eJ wd n)(hp:PnOk wd n p)(hn:xs.length<=1000000)(hr:bI xs)(Bq:okT xs) :
  Calls Tryz.prog 42 #[.agg #[v,.int .i64 p.r,.int .i64 p.c,.bool p.pd,.bool p.au],xv] w (fun e w'=>∃ v',e=.returned (.agg #[v',.int .i64 (bH wd p (bj xs)).r,.int .i64 (bH wd p (bj xs)).c,.bool (bH wd p (bj xs)).pd,.bool (bH wd p (bj xs)).au])/\HeldE lineE (fun b=>Z b\/(w.heap.size<=b/\b<w'.heap.size)) w' v' (bH wd p (bj xs)).L/\Below w.heap.size w w'):=by
 obtain ⟨ao,ca,rfl⟩:=hv.len;obtain ⟨xo,xc,rfl⟩:=hx.len;have Ce:p.L.length=n:=hp.1;obtain ⟨W,hW,hb,hz,hl0⟩:=gw w (.slice ao p.L.length ca) (.int .i64 p.r) (.int .i64 p.c) (.bool p.pd) (.bool p.au) (.slice none 0 0) (.int .i64 0) (.int .i64 0) (.bool false) (.bool false);obtain ⟨gb,hgb⟩:=ae (w.heap.size);obtain ⟨gz,BW⟩:=ae (w.heap.size+1);have BC:RB w Z gb gz p.L p.r p.c p.pd p.au ao ca W:=by
  refine ⟨by rw [hgb];exact hb,(hv.below hl0).zone (fun x _ hx=>⟨.inl hx,?_,?_⟩),by rw [BW];exact hz,hl0,by omega,by omega,by omega⟩
  ·have:=hZ x hx;omega
  ·have:=hZ x hx;omega
 have HG:=ab (And.intro hgb BW);have Db:=ab BC;have DM:=ab hs;have HPO:=ab hp;have Gi:=ab (mv (fun b=>Z b) _ xs W (hx.below hl0) hn hr);have OU:=ab (And.intro hn (And.intro hr Bq));have L7:=ab (show gb<W.heap.size/\gz<W.heap.size from by have h1:=hb.lt;have h2:=hz.lt;omega);obtain ⟨xn,Ku⟩:=ae (xs.length);rw [Ce] at hW ⊢;rw [<-Ku] at Gi ⊢;obtain ⟨⟨L0,r0',c0',pd0,au0⟩,K7⟩ : ∃ q,q=p:=⟨_,rfl⟩;subst K7
 dsimp only at *
 have AL:=ab Ce;obtain ⟨p0,K7⟩ : ∃ p0:Pn,p0=⟨L0,r0',c0',pd0,au0⟩:=⟨_,rfl⟩;rw [<-K7] at HPO;rw [<-K7];have ON:=ab K7;clear hv hx hZ hs hp hn hr Bq hb hz hl0 hgb BW BC Ce Ku K7
 go_enter Tryz.func42,Tryz.ntmps42
 go_upto_region 1 with (fail)
 rw [<-hW];clear hW;rw [<-HG.out.2];rw [<-HG.out.1]
 go_wp2_with fail
 refine Gi.out.mono ?_;rintro e w1 ⟨cv,rfl,AA,b1⟩;have DX:HeldE rowE (fun b=>W.heap.size<=b) w1 cv (bj xs):=AA.held fun b hb _=>hb
 obtain ⟨co,cc,rfl⟩:=DX.len;obtain ⟨cs,hcs⟩:=ae (bj xs);have DQ:=ab (show ∀ t ∈ cs,okT t/\bI t/\0<t.length/\t.length<=1000000 from by
  rw [hcs];intro t ht;have:=qd t ht;exact ⟨r6 OU.out.2.2 t ht,qe OU.out.2.1 t ht,this.1,by have:=OU.out.1;omega⟩)
 rw [<-hcs] at DX ⊢;have Nd:=ab hcs;obtain ⟨m,hm⟩:=ae (cs.length);rw [<-hm] at DX ⊢;have Pg:=ab DX;have DV:=DX.max;have Lr:=ab DV;have HM:=ab hm;have HRB1:=ab (Db.out.below b1);have HW1:=ab (show W.heap.size<=w1.heap.size from b1.size);clear AA b1 DX hcs hm Gi Db DV;go_wp2
 go_loopw [6] (fun iv wr=>∃ (i:Nat) (P:Pn) (o:Option Addr) (k:Nat),i<=m/\iv=.int .i64 i/\P=bH wd p0 (cs.take i)/\RB w Z gb gz P.L P.r P.c P.pd P.au o k wr/\Upd (fun b=>b=gb) w1 wr) (fun iv _=>m - (intOf iv).toNat)
 case atStart=>exact ⟨0,p0,ao,ca,Nat.zero_le _,rfl,by rw [List.take_zero];rfl,by rw [ON.out];exact HRB1.out,Upd.refl _ _⟩
 case round =>
  obtain ⟨i,P,o,k,hi,rfl,hP,BC,hu⟩:=hrel;obtain ⟨wv,Cb⟩:=ae (wr);subst Cb;have KK:PnOk wd n P:=by rw [hP];exact PnOk.lay DM.out _ _ HPO.out
  by_cases hlt:i<m
  ·have j1:decide ((i:Int)<(m:Int))=true:=ah (by omega);have j2:decide (i<m)=true:=ah (by omega);have OA:(i:Int)<(m:Int):=by omega
   have OP:IntKind.i64.wrap ((i:Int)+1)=(i:Int)+1:=by
    have:=Lr.out;have:=HM.out;unfold maxLen at this;rw [IntKind.wrap_i64];omega
   have Ot:HeldE rowE (fun b=>(W.heap.size<=b/\b≠gb)/\b≠gz) wv (.slice co m cc) cs:=(Pg.out.zone fun b _ hz=>⟨⟨hz,by have:=L7.out;omega⟩,by have:=L7.out;omega⟩).upd hu fun b hz e=>hz.1.2 e
   have Gq:=kd Ot;have hmc:=Gq.2.1;obtain ⟨bc,oc,tv,rfl,_,hcell,DA⟩:=Gq.2.2 i (by rw [<-HM.out];exact hlt);clear Gq;obtain ⟨t,ht⟩:=ae (cs.getD i []);rw [<-ht] at DA;have Hj:t ∈ cs:=by
    rw [ht,show cs.getD i []=cs[i]'(by rw [<-HM.out];exact hlt) from by simp [List.getD,List.getElem?_eq_getElem (show i<cs.length from by rw [<-HM.out];exact hlt)]];exact List.getElem_mem _
   obtain ⟨t1,t2,t3,t4⟩:=DQ.out t Hj;have HT:=ab (And.intro t1 (And.intro t2 (And.intro t3 t4)));have Bh:=ab (show putC wd P t=bH wd p0 (cs.take (i+1)) from by
    rw [hP,List.take_succ_eq_append_getElem (show i<cs.length from by rw [<-HM.out];exact hlt),gX,ht]
    simp [List.getD,List.getElem?_eq_getElem (show i<cs.length from by rw [<-HM.out];exact hlt)])
   obtain ⟨ta,tk,rfl⟩:=DA.len;have MG:=(eY DA).2.1;obtain ⟨bt,ot,rfl,_,hc0⟩:=(eY DA).2.2 0 t3;rw [Nat.add_zero] at hc0;obtain ⟨tn,EN⟩:=ae (t.length);have I6:=ab EN;obtain ⟨q0,Ji⟩:=ae (t.getD 0 0);rw [<-Ji] at hc0;have EF:=ab (ek q0 wv);rw [<-EN] at DA hcell MG;have htn0:0<tn:=by omega
   have htni:(0:Int)<(tn:Int):=by omega
   have HTV:=ab DA;have HCELL:=ab hcell;have N3:=ab hc0;have Me:=ab BC;have HU:=ab hu;have HPI:=ab KK;have Pu:=ab Ji;have Mw:P.L.length=n:=KK.1;have Og:=ab (show bc<wv.heap.size/\bc≠gb/\bt<wv.heap.size/\bt≠gb from by
    obtain ⟨_,_,h3⟩:=Ot.spots;obtain ⟨b,off,e,h4,h5,C,hC,v9,rfl,hv9⟩:=h3 i (by rw [<-HM.out];exact hlt)
    cases e
    obtain ⟨_,_,g3⟩:=DA.spots;obtain ⟨b2,off2,e2,g4,g5,_⟩:=g3 0 t3
    cases e2
    exact ⟨h4,h5.1.2,g4,g5.1.2⟩)
   have Jb:=ab (show ∀ w',Upd (fun b=>b=gb) wv w'->w'.cell? ⟨bc,oc+i,none⟩=some (.slice (some ⟨bt,ot,none⟩) tn tk)/\HeldE (aE .i32) (fun b=>(W.heap.size<=b/\b≠gb)/\b≠gz) w' (.slice (some ⟨bt,ot,none⟩) tn tk) t from fun w' h=>⟨(World.cell?_of_block (a:=⟨bc,oc+i,none⟩) (h.block bc Og.out.1 Og.out.2.1)).trans HCELL.out,HTV.out.upd h fun b hz e=>hz.1.2 e⟩)
   cases BV:bL q0 with
   |false =>
    rw [BV] at EF;have Ex:=ab (show bL (t.getD 0 0)=false from by rw [<-Ji];exact BV);have Pp:=yt wd P t1 (by rw [<-Ji];exact BV);obtain ⟨n1,n2,n3,n4,n5⟩:=KK.nat DM.out;obtain ⟨wt,hwt⟩:=ae (wdC t);obtain ⟨LP,Gc⟩:=ae ((putC wd P t).L);obtain ⟨rr,CW⟩:=ae ((putC wd P t).r);obtain ⟨c9,hcc⟩:=ae ((putC wd P t).c);obtain ⟨pp,A5⟩:=ae ((putC wd P t).pd);obtain ⟨KR,J6⟩ : ∃ KR:Int,KR=(fq P.L wd P.r2 (P.c2 wd) (P.pd2 wd) P.au (wdC t):Nat):=⟨_,rfl⟩;obtain ⟨KC,J3⟩ : ∃ KC:Int,KC=(dB wd (P.c2 wd) (P.pd2 wd) P.au (wdC t):Nat):=⟨_,rfl⟩;have Mh:=ab (show LP.length=n from by rw [Gc];exact (KK.putC DM.out t).1);have PI:=ab (show putC wd P t=⟨LP,rr,c9,pp,P.au⟩ from by rw [Gc,CW,hcc,A5,Pp];rfl);have LJ:=ab (show ∀ (Zq:an) (w':World) (x:Value),HeldE lineE Zq w' (.slice o n k) P.L->HeldE (aE .i32) Zq w' x (t.take 16)->(∀ b,Zq b->b<w'.heap.size)->Calls Tryz.prog 77 #[.agg #[.slice o n k,.int .i64 P.r,.int .i64 P.c,.bool P.pd,.bool P.au],.int .i64 wt,x] w' (fun e w2=>∃ v',e=.returned (.tuple #[.agg #[v',.int .i64 rr,.int .i64 c9,.bool pp,.bool P.au],.agg #[.int .i64 KR,.int .i64 KC,.bool false]])/\HeldE lineE (fun b=>Zq b\/(w'.heap.size<=b/\b<w2.heap.size)) w2 v' LP/\Below w'.heap.size w' w2) from fun Zq w' x h1 h2 h3=>by
     have h:=tO Zq (.slice o n k) P.L P.r P.c P.pd P.au (wdC t) x (t.take 16) w' wd h1 h2 h3 (KK.even DM.out) _ _ _ n1 n2 n3 n4 n5;rw [Gc,CW,hcc,A5,Pp,J6,J3,hwt];exact h)
    have Pi:=ab (show ∀ (Zq:an) (w':World),HeldE (aE .i32) Zq w' (.slice (some ⟨bt,ot,none⟩) tn tk) t->(∀ b,Zq b->b<w'.heap.size)->Calls Tryz.prog 97 #[.slice (some ⟨bt,ot,none⟩) tn tk] w' (Gives w' (.int .i64 wt)) from fun Zq w' h1 h2=>by rw [hwt];exact qf Zq _ t w' h1 h2 t3 t4 t2);have N7:=ab (show ∀ (Zq:an) (w':World),HeldE (aE .i32) Zq w' (.slice (some ⟨bt,ot,none⟩) tn tk) t->(∀ b,Zq b->b<w'.heap.size)->Calls Tryz.prog 92 #[.slice (some ⟨bt,ot,none⟩) tn tk] w' (iI 21 .i32 w' (t.take 16)) from fun Zq w' h1 h2=>iW Zq _ t w' h1 h2 t3 t4);obtain ⟨⟨PL,Pr',Pc',Ppd,Pau⟩,IT⟩ : ∃ q,q=P:=⟨_,rfl⟩;subst IT
    dsimp only at *
    clear Pp n1 n2 n3 n4 n5 hwt Gc CW hcc A5 J6 J3 hP BC hu Ot Hj t1 t2 t3 t4 ht DA Ji KK BV EN
    go_wp2_with fail
    refine EF.out.mono ?_;rintro e wb ⟨rfl,bb⟩;have UB:=ab (HU.out.trans (Upd.ofBelow bb |>.mono fun b hb e=>absurd hb (by have:=HU.out.size;omega)));have Ea:=ab (Me.out.below bb);have K5:=ab (show ∀ w',Upd (fun b=>b=gb) wb w'->Upd (fun b=>b=gb) wv w' from fun w' h=>(Upd.ofBelow bb |>.mono fun b hb e=>absurd hb (by omega)).trans h);clear bb hcell hc0
    go_upto_region 6 with (fail)
    obtain ⟨C9,Gg⟩ : ∃ CC:Array Bool->World->Prop,CC=fun L8 w'=>Upd (fun b=>b=gb) wb w'/\(Mix.one L8 15=0->Below wb.heap.size wb w')/\(Mix.one L8 15=1->∃ o9 k9,RB w Z gb gz LP rr c9 pp Pau o9 k9 w'):=⟨_,rfl⟩
    obtain ⟨J0,DE⟩ : ∃ XX:World->World->Prop,XX=fun x y=>Upd (fun b=>b=gb) x y:=⟨_,rfl⟩
    obtain ⟨Mb,Hrgpst,Hq,GQ,GL,Ht,G2,GG,GE,Hk,Hh,Iu,Fe,ET,DY,Fp,Hrgpe14,Hrgpe15⟩:=Reg.e16 J0
     (fun xx _=>xx=.agg #[.slice o n k,.int .i64 Pr',.int .i64 Pc',.bool Ppd,.bool Pau])
     (fun xx _=>xx=.slice (some ⟨bc,oc,none⟩) m cc)
     (fun xx _=>xx=.int .i64 i)
     (fun xx _=>xx=.pointer (some ⟨bc,oc+i,none⟩))
     (fun xx _=>xx=.slice (some ⟨bt,ot,none⟩) tn tk)
     (fun xx _=>xx=.int .i64 wt)
     (fun xx _=>xx=.slice (some ⟨bc,oc,none⟩) m cc)
     (fun xx _=>xx=.int .i64 i)
     (fun xx _=>xx=.pointer (some ⟨bc,oc+i,none⟩))
     (fun xx _=>xx=.slice (some ⟨bt,ot,none⟩) tn tk)
     (fun x w'=>HeldE (aE .i32) (fun b=>wb.heap.size<=b/\b≠gb) w' x (t.take 16))
     (fun x w'=>∃ o9 k9,x=.tuple #[.agg #[.slice o9 n k9,.int .i64 rr,.int .i64 c9,.bool pp,.bool Pau],.agg #[.int .i64 KR,.int .i64 KC,.bool false]]/\HeldE lineE (fun b=>(((Z b\/w.heap.size<=b)/\b≠gb/\b≠gz)/\b<wb.heap.size)\/wb.heap.size<=b) w' (.slice o9 n k9) LP)
     (fun x w'=>∃ o9 k9,x=.tuple #[.agg #[.slice o9 n k9,.int .i64 rr,.int .i64 c9,.bool pp,.bool Pau],.agg #[.int .i64 KR,.int .i64 KC,.bool false]]/\HeldE lineE (fun b=>(((Z b\/w.heap.size<=b)/\b≠gb/\b≠gz)/\b<wb.heap.size)\/wb.heap.size<=b) w' (.slice o9 n k9) LP)
     (fun x w'=>∃ o9 k9,x=.agg #[.slice o9 n k9,.int .i64 rr,.int .i64 c9,.bool pp,.bool Pau]/\HeldE lineE (fun b=>(((Z b\/w.heap.size<=b)/\b≠gb/\b≠gz)/\b<wb.heap.size)\/wb.heap.size<=b) w' (.slice o9 n k9) LP)
     (fun xx _=>xx=.agg #[.int .i64 KR,.int .i64 KC,.bool false])
     (fun xx _=>xx=undef)
     (s10:=fun x w w1 hx h=>by rw [DE] at hx;first | exact h | exact HeldE.upd h hx (fun b hz e=>hz.2 e) | (obtain ⟨o9,k9,e9,h9⟩:=h;exact ⟨o9,k9,e9,h9.upd hx (fun b hz e=>by have h8:=Ea.out.1.lt;rcases hz with hz | hz;exact hz.1.2.1 e;omega)⟩))
     (s11:=fun x w w1 hx h=>by rw [DE] at hx;first | exact h | exact HeldE.upd h hx (fun b hz e=>hz.2 e) | (obtain ⟨o9,k9,e9,h9⟩:=h;exact ⟨o9,k9,e9,h9.upd hx (fun b hz e=>by have h8:=Ea.out.1.lt;rcases hz with hz | hz;exact hz.1.2.1 e;omega)⟩))
     (s12:=fun x w w1 hx h=>by rw [DE] at hx;first | exact h | exact HeldE.upd h hx (fun b hz e=>hz.2 e) | (obtain ⟨o9,k9,e9,h9⟩:=h;exact ⟨o9,k9,e9,h9.upd hx (fun b hz e=>by have h8:=Ea.out.1.lt;rcases hz with hz | hz;exact hz.1.2.1 e;omega)⟩))
     (s13:=fun x w w1 hx h=>by rw [DE] at hx;first | exact h | exact HeldE.upd h hx (fun b hz e=>hz.2 e) | (obtain ⟨o9,k9,e9,h9⟩:=h;exact ⟨o9,k9,e9,h9.upd hx (fun b hz e=>by have h8:=Ea.out.1.lt;rcases hz with hz | hz;exact hz.1.2.1 e;omega)⟩))
    have DG:Hid (∀ i L w,(i == 15)=false ->  C9 L w->C9 (L.setIfInBounds i true) w):=ab (by
     intro i L w q h;simp only [Bool.or_eq_false_iff,beq_eq_false_iff_ne] at q;rw [Gg] at h ⊢;simp only [Mix.one_ne q];exact h)
    have Iz:Hid (∀ L w w1,C9 L w->Below w.heap.size w w1->C9 L w1):=ab (by
     intro L w w1 h hb;rw [Gg] at h ⊢
     (obtain ⟨q1,q2,q4⟩:=h;exact ⟨q1.trans (Upd.ofBelow hb |>.mono fun b hb e=>absurd hb (by have:=q1.size;omega)),fun e=>(q2 e).trans (hb.mono (q2 e).size),fun e=>by obtain ⟨o9,k9,h1⟩:=q4 e;exact ⟨o9,k9,h1.below hb⟩⟩))
    have FQ:=ab (show ∀ w,J0 w w from fun w=>by rw [DE];exact Upd.refl _ _);have Fc:=ab (show ∀ w w1,Below w.heap.size w w1->J0 w w1 from fun w w1 hb=>by rw [DE];exact Upd.ofBelow hb |>.mono fun b h e=>absurd h (by omega));have Hrgpc:=ab (show C9 (Array.replicate 16 false) wb.drew from by rw [Gg];exact ⟨(Upd.refl _ _).drew,fun _=>(Below.refl _ _).drew,fun e=>absurd e (by decide)⟩);have CR:=ab (fun (i:Nat) L w v q (h:C9 L w) (e:Mb i v w)=>Reg.hk (DG.out i L w q h) e (FQ.out w));have BL:=ab Gg;have HrgphX:=ab DE;clear Gg DE
    go_wp2_with fail
    refine Reg.regionF Mb C9 J0 Hrgpst.out (by kernel_rfl) (by kernel_rfl) (by kernel_rfl) Hrgpc.out (fun Frgp A1=>?_);simp only [Reg.frame,Reg.dsts,List.map_cons,List.map_nil,Mix.put_lit,Reg.put_none,List.set_cons_succ,List.set_cons_zero,Nat.zero_add,Nat.reduceAdd] at A1;refine ⟨⟨?_,?_,?_,?_,?_,?_,?_,?_,?_,?_,?_,?_,?_,?_,?_,?_,trivial⟩,?_⟩
    ·intro Lq wq xq hh;simp only [A1];refine Reg.go rfl ?_;have hc:C9 Lq wq:=hh.cls;rw [BL.out] at hc;have hq:=(Ea.out.below (hc.2.1 (Mix.one_un (hh.notYet 15 (by kernel_rfl))))).1;rw [Mw] at hq;have q0:=hq.cell 0 _ rfl;have q1:=hq.cell 1 _ rfl;have q2:=hq.cell 2 _ rfl;have q3:=hq.cell 3 _ rfl;have q4:=hq.cell 4 _ rfl;clear hc;have HK:=CR.out 0 _ _ _ rfl hh.cls ((Hq.out _ _).mpr rfl);go_simp;exact HK.out
    ·intro Lq wq xq hh;simp only [A1];refine Reg.go rfl ?_;have HK:=CR.out 1 _ _ _ rfl hh.cls ((GQ.out _ _).mpr rfl);go_simp;exact HK.out
    ·intro Lq wq xq hh;simp only [A1];refine Reg.go rfl ?_;have HK:=CR.out 2 _ _ _ rfl hh.cls ((GL.out _ _).mpr rfl);go_simp;exact HK.out
    ·intro Lq wq xq hh;simp only [A1,(GQ.out _ _).mp (hh.v 1),(GL.out _ _).mp (hh.v 2)];refine Reg.go rfl ?_;have HK:=CR.out 3 _ _ _ rfl hh.cls ((Ht.out _ _).mpr rfl);go_simp;exact HK.out
    ·intro Lq wq xq hh;simp only [A1,(Ht.out _ _).mp (hh.v 3)];refine Reg.go rfl ?_;have hc:C9 Lq wq:=hh.cls;rw [BL.out] at hc;have q0:=(Jb.out wq (K5.out wq hc.1)).1;clear hc;have HK:=CR.out 4 _ _ _ rfl hh.cls ((G2.out _ _).mpr rfl);go_simp;exact HK.out
    ·intro Lq wq xq hh;simp only [A1,(G2.out _ _).mp (hh.v 4)];refine Reg.go rfl ?_;unfold Reg.upon;have hc:C9 Lq wq:=hh.cls;rw [BL.out] at hc;go_simp;refine (Pi.out (fun b=>b<wq.heap.size) wq ((Jb.out wq (K5.out wq hc.1)).2.zone fun b hb _=>hb) (fun _ h=>h)).mono ?_;rintro e w2 ⟨rfl,hb⟩;exact ⟨_,rfl,DG.out 5 Lq w2 rfl  (Iz.out Lq wq w2 hh.cls hb),(by rw [GG.out];try rfl),Fc.out wq w2 hb⟩
    ·intro Lq wq xq hh;simp only [A1];refine Reg.go rfl ?_;have HK:=CR.out 6 _ _ _ rfl hh.cls ((GE.out _ _).mpr rfl);go_simp;exact HK.out
    ·intro Lq wq xq hh;simp only [A1];refine Reg.go rfl ?_;have HK:=CR.out 7 _ _ _ rfl hh.cls ((Hk.out _ _).mpr rfl);go_simp;exact HK.out
    ·intro Lq wq xq hh;simp only [A1,(GE.out _ _).mp (hh.v 6),(Hk.out _ _).mp (hh.v 7)];refine Reg.go rfl ?_;have HK:=CR.out 8 _ _ _ rfl hh.cls ((Hh.out _ _).mpr rfl);go_simp;exact HK.out
    ·intro Lq wq xq hh;simp only [A1,(Hh.out _ _).mp (hh.v 8)];refine Reg.go rfl ?_;have hc:C9 Lq wq:=hh.cls;rw [BL.out] at hc;have q0:=(Jb.out wq (K5.out wq hc.1)).1;clear hc;have HK:=CR.out 9 _ _ _ rfl hh.cls ((Iu.out _ _).mpr rfl);go_simp;exact HK.out
    ·intro Lq wq xq hh;simp only [A1,(Iu.out _ _).mp (hh.v 9)];refine Reg.go rfl ?_;unfold Reg.upon;have hc:C9 Lq wq:=hh.cls;rw [BL.out] at hc;have hfi:=N7.out (fun b=>b<wq.heap.size) wq ((Jb.out wq (K5.out wq hc.1)).2.zone fun b hb _=>hb) (fun _ h=>h);have hsz:=hc.1.size;have h8:=Ea.out.1.lt;clear hc;go_simp;refine hfi.mono ?_;rintro e w9 ⟨v9,rfl,A9,b9⟩;refine ⟨_,rfl,DG.out 10 Lq w9 rfl  (Iz.out Lq wq w9 hh.cls b9),?_,Fc.out wq w9 b9⟩;rw [Fe.out];exact (HeldE.ownedInts A9).zone fun b _ hz=>⟨Nat.le_trans hsz hz,by omega⟩
    ·intro Lq wq xq hh;have d10:=(Fe.out _ _).mp (hh.v 10);simp only [A1,(Hq.out _ _).mp (hh.v 0),(GG.out _ _).mp (hh.v 5)];refine Reg.go rfl ?_;unfold Reg.upon;have hc:C9 Lq wq:=hh.cls;rw [BL.out] at hc;have Bj:=hc.2.1 (Mix.one_un (hh.notYet 15 (by kernel_rfl)));have JM:=Ea.out.arg.below Bj;rw [Mw] at JM;have hput:=LJ.out (fun b=>((((Z b\/w.heap.size<=b)/\b≠gb/\b≠gz)/\b<wb.heap.size)\/wb.heap.size<=b)/\b<wq.heap.size) wq (xq 10) (JM.zone fun b hb hz=>⟨.inl hz,hb⟩) (HeldE.zone d10 fun b hb hz=>⟨.inr hz.1,hb⟩) (fun b h=>h.2);clear hc JM;go_simp;refine hput.mono ?_;rintro e w9 ⟨v9,rfl,h9,b9⟩;obtain ⟨o9,k9,ev9⟩:=h9.len;rw [Mh.out] at ev9;subst ev9;refine ⟨_,rfl,DG.out 11 Lq w9 rfl  (Iz.out Lq wq w9 hh.cls b9),?_,Fc.out wq w9 b9⟩;rw [ET.out];refine ⟨o9,k9,rfl,h9.zone fun b _ hz=>?_⟩
     rcases hz with hz | hz
     ·exact hz.1
     ·exact .inr (Nat.le_trans Bj.size hz.1)
    ·intro Lq wq xq hh;have d11:=(ET.out _ _).mp (hh.v 11);simp only [A1];refine Reg.go rfl ?_;unfold Reg.upon;go_simp;exact ⟨DG.out 12 Lq wq rfl  hh.cls,(by rw [DY.out];exact d11),FQ.out _⟩
    ·intro Lq wq xq hh;have d12:=(DY.out _ _).mp (hh.v 12);simp only [A1];refine Reg.go rfl ?_;unfold Reg.upon;obtain ⟨o9,k9,e9,h9⟩:=d12;rw [e9];go_simp;exact ⟨DG.out 13 Lq wq rfl  hh.cls,(by rw [Fp.out];exact ⟨o9,k9,rfl,h9⟩),FQ.out _⟩
    ·intro Lq wq xq hh;have d12:=(DY.out _ _).mp (hh.v 12);simp only [A1];refine Reg.go rfl ?_;unfold Reg.upon;obtain ⟨o9,k9,e9,h9⟩:=d12;rw [e9];go_simp;exact ⟨DG.out 14 Lq wq rfl  hh.cls,(by rw [Hrgpe14.out]),FQ.out _⟩
    ·intro Lq wq xq hh;have d13:=(Fp.out _ _).mp (hh.v 13);simp only [A1];refine Reg.go rfl ?_;unfold Reg.upon;have hc:C9 Lq wq:=hh.cls;rw [BL.out] at hc;have Bj:=hc.2.1 hh.un;obtain ⟨o9,k9,e9,hz⟩:=d13;have Aj:=(Ea.out.below Bj).1;have s0:=Aj.cell 0 _ rfl;have s1:=Aj.cell 1 _ rfl;have s2:=Aj.cell 2 _ rfl;have s3:=Aj.cell 3 _ rfl;have s4:=Aj.cell 4 _ rfl;have f0:=Aj.free 0;have f1:=Aj.free 1;have f2:=Aj.free 2;have f3:=Aj.free 3;have f4:=Aj.free 4;rw [Mw] at s0;have q10:=RB.store (r3:=rr) (c3:=c9) (pd3:=pp) (au3:=Pau) (o':=o9) (k':=k9) (L3:=LP) Ea.out Bj (by rw [Mh.out];exact hz.zone fun x hx hy=>by rcases hy with hy | hy;exact .inl hy;exact .inr ⟨hy,hx⟩);rw [Mh.out] at q10;have hF:C9 (Lq.setIfInBounds 15 true) (((((wq.setCell ⟨gb,0,none⟩ (.slice o9 n k9)).setCell ⟨gb,1,none⟩ (.int .i64 rr)).setCell ⟨gb,2,none⟩ (.int .i64 c9)).setCell ⟨gb,3,none⟩ (.bool pp)).setCell ⟨gb,4,none⟩ (.bool Pau)):=by
      rw [BL.out];refine ⟨hc.1.trans (aT gb _ _ _ _ _),fun e=>?_,fun _=>⟨o9,k9,q10⟩⟩;rw [Mix.one_set (by rw [hh.size];decide)] at e;exact absurd e (by decide)
     have hE:Mb 15 undef (((((wq.setCell ⟨gb,0,none⟩ (.slice o9 n k9)).setCell ⟨gb,1,none⟩ (.int .i64 rr)).setCell ⟨gb,2,none⟩ (.int .i64 c9)).setCell ⟨gb,3,none⟩ (.bool pp)).setCell ⟨gb,4,none⟩ (.bool Pau)):=by rw [Hrgpe15.out]
     have hX:J0 wq (((((wq.setCell ⟨gb,0,none⟩ (.slice o9 n k9)).setCell ⟨gb,1,none⟩ (.int .i64 rr)).setCell ⟨gb,2,none⟩ (.int .i64 c9)).setCell ⟨gb,3,none⟩ (.bool pp)).setCell ⟨gb,4,none⟩ (.bool Pau)):=by rw [HrgphX.out];exact aT _ _ _ _ _ _
     rw [e9];clear hc hz Aj q10 Bj;go_simp;exact ⟨hF,hE,hX⟩
    intro xq wrgp hcrgp hvrgp;rw [BL.out] at hcrgp;simp only [A1];clear hvrgp A1 CR DG FQ Hrgpst Hrgpc BL HrgphX Iz Fc Hq GQ GL Ht G2 GG GE Hk Hh Iu Fe ET DY Fp Hrgpe14 Hrgpe15;obtain ⟨u9,_,Ng⟩:=hcrgp;obtain ⟨o9,k9,Cc⟩:=Ng (by kernel_rfl);have AN:=ab (And.intro Cc (UB.out.trans u9));clear u9 Ng Cc;go_wp2
    go_roundw
    case rel=>exact ⟨i+1,⟨LP,rr,c9,pp,Pau⟩,o9,k9,by omega,by go_num,by rw [<-Bh.out,PI.out],AN.out.1,AN.out.2⟩
    case measure=>simp [intOf] <;> omega
   |true =>
    rw [BV] at EF;have Ex:=ab (show bL (t.getD 0 0)=true from by rw [<-Ji];exact BV);have FB:=ab t4;have HTC:=ab (eY DA).2.2;clear hP BC hu Ot Hj t1 t2 t3 t4 ht Ji BV EN
    go_wp2_with fail
    refine EF.out.mono ?_;rintro e wb ⟨rfl,bb⟩;have UB:=ab (HU.out.trans (Upd.ofBelow bb |>.mono fun b hb e=>absurd hb (by have:=HU.out.size;omega)));have Ea:=ab (Me.out.below bb);have K5:=ab (show ∀ w',Upd (fun b=>b=gb) wb w'->Upd (fun b=>b=gb) wv w' from fun w' h=>(Upd.ofBelow bb |>.mono fun b hb e=>absurd hb (by omega)).trans h);clear bb hcell DA hc0;go_wp2
    go_loopw [7] (fun kv wr=>∃ (j:Nat) (P2:Pn) (o2:Option Addr) (k2:Nat),j<=tn/\kv=.int .i64 j/\P2=(t.take j).foldl (doP wd) P/\RB w Z gb gz P2.L P2.r P2.c P2.pd P2.au o2 k2 wr/\Upd (fun b=>b=gb) wb wr) (fun kv _=>tn - (intOf kv).toNat)
    case atStart=>exact ⟨0,P,o,k,Nat.zero_le _,rfl,by rw [List.take_zero];rfl,Ea.out,Upd.refl _ _⟩
    case round =>
     obtain ⟨j,P2,o2,k2,hj,rfl,Nx,Kk,Id⟩:=hrel;obtain ⟨wd2,hwd2⟩:=ae (wr);subst hwd2;have I1:PnOk wd n P2:=by rw [Nx];exact PnOk.dos DM.out _ _ HPI.out
     have DH:=(Jb.out wd2 (K5.out wd2 Id)).1
     by_cases hjt:j<tn
     ·have j3:decide ((j:Int)<(tn:Int))=true:=ah (by omega);have j4:decide (j<tn)=true:=ah (by omega);have Ey:(j:Int)<(tn:Int):=by omega
      have hwj2:IntKind.i64.wrap ((j:Int)+1)=(j:Int)+1:=by
       have:=FB.out;have:=I6.out;rw [IntKind.wrap_i64];omega
      obtain ⟨b2,t2,e2,hb2,O6⟩:=HTC.out j (by rw [<-I6.out];exact hjt)
      cases e2
      obtain ⟨K,hK⟩:=ae (t.getD j 0);rw [<-hK] at O6;have Pa:=ab (show ∀ w',Upd (fun b=>b=gb) wv w'->w'.cell? ⟨bt,ot+j,none⟩=some (.int .i32 K) from fun w' h=>(World.cell?_of_block (a:=⟨bt,ot+j,none⟩) (h.block bt Og.out.2.2.1 Og.out.2.2.2)).trans O6);have hjk:j<tk:=by omega
      have HNX2:=ab (show doP wd P2 K=(t.take (j+1)).foldl (doP wd) P from by
       rw [Nx,List.take_succ_eq_append_getElem (show j<t.length from by rw [<-I6.out];exact hjt),List.foldl_append,hK]
       simp [List.getD,List.getElem?_eq_getElem (show j<t.length from by rw [<-I6.out];exact hjt)])
      obtain ⟨n1,n2,n3,n4,n5⟩:=I1.nat DM.out;obtain ⟨LP,Gc⟩:=ae ((doP wd P2 K).L);obtain ⟨rr,CW⟩:=ae ((doP wd P2 K).r);obtain ⟨c9,hcc⟩:=ae ((doP wd P2 K).c);obtain ⟨pp,A5⟩:=ae ((doP wd P2 K).pd);obtain ⟨sk,hsk⟩:=ae (bL K);have Mh:=ab (show LP.length=n from by rw [Gc];exact (I1.do_ DM.out K).1);have PI:=ab (show doP wd P2 K=⟨LP,rr,c9,pp,P2.au⟩ from by rw [Gc,CW,hcc,A5];rfl);have HDO:=ab (show ∀ (Zq:an) (w':World),HeldE lineE Zq w' (.slice o2 n k2) P2.L->(∀ b,Zq b->b<w'.heap.size)->Calls Tryz.prog 98 #[.agg #[.slice o2 n k2,.int .i64 P2.r,.int .i64 P2.c,.bool P2.pd,.bool P2.au],.int .i32 K] w' (fun e w2=>∃ v',e=.returned (.tuple #[.agg #[v',.int .i64 rr,.int .i64 c9,.bool pp,.bool P2.au],.bool sk])/\HeldE lineE (fun b=>Zq b\/(w'.heap.size<=b/\b<w2.heap.size)) w2 v' LP/\Below w'.heap.size w' w2) from fun Zq w' h1 h2=>by
       rw [Gc,CW,hcc,A5,hsk];exact yu Zq (.slice o2 n k2) P2.L P2.r P2.c P2.pd P2.au K w' h1 h2 wd (I1.even DM.out) _ _ n1 n2 n4 n5)
      have Ly:P2.L.length=n:=I1.1;have Hg:=ab Kk;have UB2:=ab Id;obtain ⟨⟨PL,Pr',Pc',Ppd,Pau⟩,IT⟩ : ∃ q,q=P2:=⟨_,rfl⟩;subst IT
      dsimp only at *
      clear Nx Kk Id I1 hK O6 n1 n2 n3 n4 n5 Gc CW hcc A5 hsk
      go_upto_region 10 with (fail)
      clear DH;obtain ⟨DB,Ga⟩ : ∃ CC:Array Bool->World->Prop,CC=fun L8 w'=>Upd (fun b=>b=gb) wd2 w'/\(Mix.one L8 12=0->Below wd2.heap.size wd2 w')/\(Mix.one L8 12=1->∃ o9 k9,RB w Z gb gz LP rr c9 pp Pau o9 k9 w'):=⟨_,rfl⟩
      obtain ⟨JI,Ei⟩ : ∃ XX:World->World->Prop,XX=fun x y=>Upd (fun b=>b=gb) x y:=⟨_,rfl⟩
      obtain ⟨LA,Hrgqst,GC,Hn,GB,G0,GM,Hc,Gr,G6,Gy,EZ,Fn,Hrgqe11,Hrgqe12,_,_,_⟩:=Reg.e16 JI
       (fun xx _=>xx=.agg #[.slice o2 n k2,.int .i64 Pr',.int .i64 Pc',.bool Ppd,.bool Pau])
       (fun xx _=>xx=.slice (some ⟨bc,oc,none⟩) m cc)
       (fun xx _=>xx=.int .i64 i)
       (fun xx _=>xx=.pointer (some ⟨bc,oc+i,none⟩))
       (fun xx _=>xx=.slice (some ⟨bt,ot,none⟩) tn tk)
       (fun xx _=>xx=.int .i64 j)
       (fun xx _=>xx=.pointer (some ⟨bt,ot+j,none⟩))
       (fun xx _=>xx=.int .i32 K)
       (fun x w'=>∃ o9 k9,x=.tuple #[.agg #[.slice o9 n k9,.int .i64 rr,.int .i64 c9,.bool pp,.bool Pau],.bool sk]/\HeldE lineE (fun b=>(((Z b\/w.heap.size<=b)/\b≠gb/\b≠gz)/\b<wd2.heap.size)\/wd2.heap.size<=b) w' (.slice o9 n k9) LP)
       (fun x w'=>∃ o9 k9,x=.tuple #[.agg #[.slice o9 n k9,.int .i64 rr,.int .i64 c9,.bool pp,.bool Pau],.bool sk]/\HeldE lineE (fun b=>(((Z b\/w.heap.size<=b)/\b≠gb/\b≠gz)/\b<wd2.heap.size)\/wd2.heap.size<=b) w' (.slice o9 n k9) LP)
       (fun x w'=>∃ o9 k9,x=.agg #[.slice o9 n k9,.int .i64 rr,.int .i64 c9,.bool pp,.bool Pau]/\HeldE lineE (fun b=>(((Z b\/w.heap.size<=b)/\b≠gb/\b≠gz)/\b<wd2.heap.size)\/wd2.heap.size<=b) w' (.slice o9 n k9) LP)
       (fun xx _=>xx=.bool sk)
       (fun xx _=>xx=undef)
       (fun _ _=>True) (fun _ _=>True) (fun _ _=>True)
       (s8:=fun x w w1 hx h=>by rw [Ei] at hx;(obtain ⟨o9,k9,e9,h9⟩:=h;exact ⟨o9,k9,e9,h9.upd hx (fun b hz e=>by have h8:=Hg.out.1.lt;rcases hz with hz | hz;exact hz.1.2.1 e;omega)⟩))
       (s9:=fun x w w1 hx h=>by rw [Ei] at hx;(obtain ⟨o9,k9,e9,h9⟩:=h;exact ⟨o9,k9,e9,h9.upd hx (fun b hz e=>by have h8:=Hg.out.1.lt;rcases hz with hz | hz;exact hz.1.2.1 e;omega)⟩))
       (s10:=fun x w w1 hx h=>by rw [Ei] at hx;(obtain ⟨o9,k9,e9,h9⟩:=h;exact ⟨o9,k9,e9,h9.upd hx (fun b hz e=>by have h8:=Hg.out.1.lt;rcases hz with hz | hz;exact hz.1.2.1 e;omega)⟩))
      have EP:Hid (∀ i L w,(i == 12)=false ->  DB L w->DB (L.setIfInBounds i true) w):=ab (by
       intro i L w q h;simp only [Bool.or_eq_false_iff,beq_eq_false_iff_ne] at q;rw [Ga] at h ⊢;simp only [Mix.one_ne q];exact h)
      have Hrgqb:Hid (∀ L w w1,DB L w->Below w.heap.size w w1->DB L w1):=ab (by
       intro L w w1 h hb;rw [Ga] at h ⊢
       (obtain ⟨q1,q2,q4⟩:=h;exact ⟨q1.trans (Upd.ofBelow hb |>.mono fun b hb e=>absurd hb (by have:=q1.size;omega)),fun e=>(q2 e).trans (hb.mono (q2 e).size),fun e=>by obtain ⟨o9,k9,h1⟩:=q4 e;exact ⟨o9,k9,h1.below hb⟩⟩))
      have FV:=ab (show ∀ w,JI w w from fun w=>by rw [Ei];exact Upd.refl _ _);have Hrgqxb:=ab (show ∀ w w1,Below w.heap.size w w1->JI w w1 from fun w w1 hb=>by rw [Ei];exact Upd.ofBelow hb |>.mono fun b h e=>absurd h (by omega));have Hrgqc:=ab (show DB (Array.replicate 13 false) wd2.drew from by rw [Ga];exact ⟨(Upd.refl _ _).drew,fun _=>(Below.refl _ _).drew,fun e=>absurd e (by decide)⟩);have Dp:=ab (fun (i:Nat) L w v q (h:DB L w) (e:LA i v w)=>Reg.hk (EP.out i L w q h) e (FV.out w));have Ch:=ab Ga;have HrgqhX:=ab Ei;clear Ga Ei
      go_wp2_with fail
      refine Reg.regionF LA DB JI Hrgqst.out (by kernel_rfl) (by kernel_rfl) (by kernel_rfl) Hrgqc.out (fun Frgq Be=>?_);simp only [Reg.frame,Reg.dsts,List.map_cons,List.map_nil,Mix.put_lit,Reg.put_none,List.set_cons_succ,List.set_cons_zero,Nat.zero_add,Nat.reduceAdd] at Be;refine ⟨⟨?_,?_,?_,?_,?_,?_,?_,?_,?_,?_,?_,?_,?_,trivial⟩,?_⟩
      ·intro Lq wq xq hh;simp only [Be];refine Reg.go rfl ?_;have hc:DB Lq wq:=hh.cls;rw [Ch.out] at hc;have hq:=(Hg.out.below (hc.2.1 (Mix.one_un (hh.notYet 12 (by kernel_rfl))))).1;rw [Ly] at hq;have q0:=hq.cell 0 _ rfl;have q1:=hq.cell 1 _ rfl;have q2:=hq.cell 2 _ rfl;have q3:=hq.cell 3 _ rfl;have q4:=hq.cell 4 _ rfl;clear hc;have HK:=Dp.out 0 _ _ _ rfl hh.cls ((GC.out _ _).mpr rfl);go_simp;exact HK.out
      ·intro Lq wq xq hh;simp only [Be];refine Reg.go rfl ?_;have HK:=Dp.out 1 _ _ _ rfl hh.cls ((Hn.out _ _).mpr rfl);go_simp;exact HK.out
      ·intro Lq wq xq hh;simp only [Be];refine Reg.go rfl ?_;have HK:=Dp.out 2 _ _ _ rfl hh.cls ((GB.out _ _).mpr rfl);go_simp;exact HK.out
      ·intro Lq wq xq hh;simp only [Be,(Hn.out _ _).mp (hh.v 1),(GB.out _ _).mp (hh.v 2)];refine Reg.go rfl ?_;have HK:=Dp.out 3 _ _ _ rfl hh.cls ((G0.out _ _).mpr rfl);go_simp;exact HK.out
      ·intro Lq wq xq hh;simp only [Be,(G0.out _ _).mp (hh.v 3)];refine Reg.go rfl ?_;have hc:DB Lq wq:=hh.cls;rw [Ch.out] at hc;have q0:=(Jb.out wq (K5.out wq (UB2.out.trans hc.1))).1;clear hc;have HK:=Dp.out 4 _ _ _ rfl hh.cls ((GM.out _ _).mpr rfl);go_simp;exact HK.out
      ·intro Lq wq xq hh;simp only [Be];refine Reg.go rfl ?_;have HK:=Dp.out 5 _ _ _ rfl hh.cls ((Hc.out _ _).mpr rfl);go_simp;exact HK.out
      ·intro Lq wq xq hh;simp only [Be,(GM.out _ _).mp (hh.v 4),(Hc.out _ _).mp (hh.v 5)];refine Reg.go rfl ?_;have HK:=Dp.out 6 _ _ _ rfl hh.cls ((Gr.out _ _).mpr rfl);go_simp;exact HK.out
      ·intro Lq wq xq hh;simp only [Be,(Gr.out _ _).mp (hh.v 6)];refine Reg.go rfl ?_;have hc:DB Lq wq:=hh.cls;rw [Ch.out] at hc;have q0:=Pa.out wq (K5.out wq (UB2.out.trans hc.1));clear hc;have HK:=Dp.out 7 _ _ _ rfl hh.cls ((G6.out _ _).mpr rfl);go_simp;exact HK.out
      ·intro Lq wq xq hh;simp only [Be,(GC.out _ _).mp (hh.v 0),(G6.out _ _).mp (hh.v 7)];refine Reg.go rfl ?_;unfold Reg.upon;have hc:DB Lq wq:=hh.cls;rw [Ch.out] at hc;have Bj:=hc.2.1 (Mix.one_un (hh.notYet 12 (by kernel_rfl)));have JM:=Hg.out.arg.below Bj;rw [Ly] at JM;have hput:=HDO.out (fun b=>((((Z b\/w.heap.size<=b)/\b≠gb/\b≠gz)/\b<wd2.heap.size))/\b<wq.heap.size) wq (JM.zone fun b hb hz=>⟨hz,hb⟩) (fun b h=>h.2);clear hc JM;go_simp;refine hput.mono ?_;rintro e w9 ⟨v9,rfl,h9,b9⟩;obtain ⟨o9,k9,ev9⟩:=h9.len;rw [Mh.out] at ev9;subst ev9;refine ⟨_,rfl,EP.out 8 Lq w9 rfl  (Hrgqb.out Lq wq w9 hh.cls b9),?_,Hrgqxb.out wq w9 b9⟩;rw [Gy.out];refine ⟨o9,k9,rfl,h9.zone fun b _ hz=>?_⟩
       rcases hz with hz | hz
       ·exact .inl hz.1
       ·exact .inr (Nat.le_trans Bj.size hz.1)
      ·intro Lq wq xq hh;have d8:=(Gy.out _ _).mp (hh.v 8);simp only [Be];refine Reg.go rfl ?_;unfold Reg.upon;go_simp;exact ⟨EP.out 9 Lq wq rfl  hh.cls,(by rw [EZ.out];exact d8),FV.out _⟩
      ·intro Lq wq xq hh;have d9:=(EZ.out _ _).mp (hh.v 9);simp only [Be];refine Reg.go rfl ?_;unfold Reg.upon;obtain ⟨o9,k9,e9,h9⟩:=d9;rw [e9];go_simp;exact ⟨EP.out 10 Lq wq rfl  hh.cls,(by rw [Fn.out];exact ⟨o9,k9,rfl,h9⟩),FV.out _⟩
      ·intro Lq wq xq hh;have d9:=(EZ.out _ _).mp (hh.v 9);simp only [Be];refine Reg.go rfl ?_;unfold Reg.upon;obtain ⟨o9,k9,e9,h9⟩:=d9;rw [e9];go_simp;exact ⟨EP.out 11 Lq wq rfl  hh.cls,(by rw [Hrgqe11.out]),FV.out _⟩
      ·intro Lq wq xq hh;have d10:=(Fn.out _ _).mp (hh.v 10);simp only [Be];refine Reg.go rfl ?_;unfold Reg.upon;have hc:DB Lq wq:=hh.cls;rw [Ch.out] at hc;have Bj:=hc.2.1 hh.un;obtain ⟨o9,k9,e9,hz⟩:=d10;have Aj:=(Hg.out.below Bj).1;have s0:=Aj.cell 0 _ rfl;have s1:=Aj.cell 1 _ rfl;have s2:=Aj.cell 2 _ rfl;have s3:=Aj.cell 3 _ rfl;have s4:=Aj.cell 4 _ rfl;have f0:=Aj.free 0;have f1:=Aj.free 1;have f2:=Aj.free 2;have f3:=Aj.free 3;have f4:=Aj.free 4;rw [Ly] at s0;have q10:=RB.store (r3:=rr) (c3:=c9) (pd3:=pp) (au3:=Pau) (o':=o9) (k':=k9) (L3:=LP) Hg.out Bj (by rw [Mh.out];exact hz.zone fun x hx hy=>by rcases hy with hy | hy;exact .inl hy;exact .inr ⟨hy,hx⟩);rw [Mh.out] at q10;have hF:DB (Lq.setIfInBounds 12 true) (((((wq.setCell ⟨gb,0,none⟩ (.slice o9 n k9)).setCell ⟨gb,1,none⟩ (.int .i64 rr)).setCell ⟨gb,2,none⟩ (.int .i64 c9)).setCell ⟨gb,3,none⟩ (.bool pp)).setCell ⟨gb,4,none⟩ (.bool Pau)):=by
        rw [Ch.out];refine ⟨hc.1.trans (aT gb _ _ _ _ _),fun e=>?_,fun _=>⟨o9,k9,q10⟩⟩;rw [Mix.one_set (by rw [hh.size];decide)] at e;exact absurd e (by decide)
       have hE:LA 12 undef (((((wq.setCell ⟨gb,0,none⟩ (.slice o9 n k9)).setCell ⟨gb,1,none⟩ (.int .i64 rr)).setCell ⟨gb,2,none⟩ (.int .i64 c9)).setCell ⟨gb,3,none⟩ (.bool pp)).setCell ⟨gb,4,none⟩ (.bool Pau)):=by rw [Hrgqe12.out]
       have hX:JI wq (((((wq.setCell ⟨gb,0,none⟩ (.slice o9 n k9)).setCell ⟨gb,1,none⟩ (.int .i64 rr)).setCell ⟨gb,2,none⟩ (.int .i64 c9)).setCell ⟨gb,3,none⟩ (.bool pp)).setCell ⟨gb,4,none⟩ (.bool Pau)):=by rw [HrgqhX.out];exact aT _ _ _ _ _ _
       rw [e9];clear hc hz Aj q10 Bj;go_simp;exact ⟨hF,hE,hX⟩
      intro xq wrgq hcrgq hvrgq;rw [Ch.out] at hcrgq;simp only [Be];clear hvrgq Be Dp EP FV Hrgqst Hrgqc Ch HrgqhX Hrgqb Hrgqxb GC Hn GB G0 GM Hc Gr G6 Gy EZ Fn Hrgqe11 Hrgqe12;obtain ⟨u9,_,GH⟩:=hcrgq;obtain ⟨o9,k9,Cc⟩:=GH (by kernel_rfl);have AN:=ab (And.intro Cc (UB2.out.trans u9));clear u9 GH Cc;go_wp2
      go_roundw
      case rel=>exact ⟨j+1,⟨LP,rr,c9,pp,Pau⟩,o9,k9,by omega,by go_num,by rw [<-HNX2.out,PI.out],AN.out.1,AN.out.2⟩
      case measure=>simp [intOf] <;> omega
     ·obtain rfl:j=tn:=by omega
      have j3:decide ((j:Int)<(j:Int))=false:=ai (by omega);have AN:=ab (And.intro Kk (UB.out.trans Id));have MZ:=ab (show P2=bH wd p0 (cs.take (i+1)) from by
       rw [<-Bh.out,Nx,I6.out,List.take_length];unfold putC;rw [if_pos Ex.out])
      clear Nx Kk Id I1;go_wp2
      go_roundw
      case rel=>exact ⟨i+1,P2,o2,k2,by omega,by go_num,MZ.out,AN.out.1,AN.out.2⟩
      case measure=>simp [intOf] <;> omega
  ·obtain rfl:i=m:=by omega
   have j1:decide ((i:Int)<(i:Int))=false:=ai (by omega);have hPe:P=bH wd p0 (bj xs):=by rw [hP,HM.out,List.take_length,Nd.out]
   have MY:=ab hPe;have Mw:P.L.length=n:=KK.1;have Me:=ab BC;obtain ⟨⟨PL,Pr',Pc',Ppd,Pau⟩,IT⟩ : ∃ q,q=P:=⟨_,rfl⟩;subst IT
   dsimp only at *
   have q0:=BC.1.cell 0 _ rfl;rw [Mw] at q0;have q1:=BC.1.cell 1 _ rfl;have q2:=BC.1.cell 2 _ rfl;have q3:=BC.1.cell 3 _ rfl;have q4:=BC.1.cell 4 _ rfl;have s0:=BC.2.2.1.cell 0 _ rfl;have s1:=BC.2.2.1.cell 1 _ rfl;have s2:=BC.2.2.1.cell 2 _ rfl;have s3:=BC.2.2.1.cell 3 _ rfl;have s4:=BC.2.2.1.cell 4 _ rfl;have f0:=BC.2.2.1.free 0;have f1:=BC.2.2.1.free 1;have f2:=BC.2.2.1.free 2;have f3:=BC.2.2.1.free 3;have f4:=BC.2.2.1.free 4;have J7:=BC.fin;rw [Mw] at J7;have HF:=ab J7;have HH:=ab (cH BC.2.2.1 (.slice o n k) (.int .i64 Pr') (.int .i64 Pc') (.bool Ppd) (.bool Pau));obtain ⟨W5,AK⟩:=ae ((((((wv.setCell ⟨gz,0,none⟩ (.slice o n k)).setCell ⟨gz,1,none⟩ (.int .i64 Pr')).setCell ⟨gz,2,none⟩ (.int .i64 Pc')).setCell ⟨gz,3,none⟩ (.bool Ppd)).setCell ⟨gz,4,none⟩ (.bool Pau)));have Di:=ab AK;rw [<-AK] at HF HH;clear hP BC hu KK hPe J7 AK;go_wp2;rw [<-Di.out];have k0:=HH.out.cell 0 _ rfl;have k1:=HH.out.cell 1 _ rfl;have k2:=HH.out.cell 2 _ rfl;have k3:=HH.out.cell 3 _ rfl;have k4:=HH.out.cell 4 _ rfl;exact bodyPost_ret (v:=.agg #[.slice o n k,.int .i64 Pr',.int .i64 Pc',.bool Ppd,.bool Pau]) (by simp [results,Tryz.results42,go_sem,k0,k1,k2,k3,k4]) rfl ⟨_,by rw [<-MY.out],by rw [<-MY.out];exact HF.out.1,HF.out.2⟩
end Go.Proofs.YtoeggiplcaegoaaGreatDoor
