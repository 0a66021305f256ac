import Derived.Test.YtoeggiplcaegoaaGreatDoorZ0
import Derived.Test.YtoeggiplcaegoaaGreatDoorMg6
import Derived.Test.YtoeggiplcaegoaaGreatDoorMg5
import Derived.Test.YtoeggiplcaegoaaGreatDoorPlcX
import Derived.Test.YtoeggiplcaegoaaGreatDoorMg4
set_option maxRecDepth 100000
set_option linter.unusedVariables false
set_option linter.unusedSimpArgs false
set_option maxHeartbeats 8000000
namespace Go.Proofs.YtoeggiplcaegoaaGreatDoor
open Go.RowKit Go.ChangeShapes Go.WideShapes
def okT(xs:List Int):Prop:=∀ x ∈ xs,aS x=x
theorem okT.map{t:List Int}(h:okT t):t.map aS=t:=by
 conv=>rhs;rw [<-List.map_id t]
 exact List.map_congr_left h
theorem okT.num{t:List Int}(h:okT t):eB t (clN t)=t.take 16:=by
 unfold eB clN;have e:t.take (min t.length 16)=t.take 16:=by
  by_cases hl:t.length<=16
  ·rw [Nat.min_eq_left hl,List.take_of_length_le (Nat.le_refl _),List.take_of_length_le hl]
  ·rw [Nat.min_eq_right (by omega)]
 rw [e];have h2:okT (t.take 16):=fun x hx=>h x (List.mem_of_mem_take hx)
 exact h2.map
theorem okT.wide{t:List Int}(h:okT t)(hs:bL (t.getD 0 0)=false):wdC t=clW t:=by
 unfold wdC clW;rw [if_neg (by rw [hs];decide)];unfold j7 gwI cwW;rw [h.map];have hl:(t.take 16).length=clN t:=by unfold clN;rw [List.length_take,Nat.min_comm]
 rw [hl,mH (ys:=t) (qs:=aq t) (clN t) fun i hi=>by
  have hi16:i<16:=by unfold clN at hi;omega
  refine ⟨lA _ _ _ _ hi16,?_⟩;unfold aq;rw [List.map_take];exact lA _ _ _ _ hi16]
theorem yt(wd:Nat)(p:Pn){t:List Int}(h:okT t)(hs:bL (t.getD 0 0)=false):putC wd p t=uw wd p (wdC t) (t.take 16):=by
 unfold putC;rw [if_neg (by rw [hs];decide),h.wide hs,h.num]
theorem r6{xs:List Int}(h:okT xs):∀ t ∈ bj xs,okT t:=fun t ht x hx=>by
 unfold bj at ht;obtain ⟨q,_,rfl⟩:=List.mem_map.1 ht;exact h x (List.mem_of_mem_drop (List.mem_of_mem_take hx))
theorem qd{xs:List Int}:∀ t ∈ bj xs,0<t.length/\t.length<=xs.length:=fun t ht=>by
 unfold bj at ht;obtain ⟨q,hq,rfl⟩:=List.mem_map.1 ht;have:=jN _ _ q hq;rw [fc xs q (by omega) (by omega)];omega
theorem qe{xs:List Int}(h:bI xs):∀ t ∈ bj xs,bI t:=fun t ht i hi=>by
 unfold bj at ht;obtain ⟨q,hq,rfl⟩:=List.mem_map.1 ht;have h0:=jN _ _ q hq;rw [fc xs q (by omega) (by omega)] at hi;have e:(bu xs q).getD i 0=xs.getD (q.1+i) 0:=by
  unfold bu
  simp [List.getD,List.getElem?_take,hi]
 rw [e];exact h _ (by omega)
theorem kd{Z:an}{w:World}{ao:Option Addr}{n cap:Nat}{L:List (List Int)}(h:HeldE rowE Z w (.slice ao n cap) L):n=L.length/\n<=cap/\∀ i,i<L.length->∃ b off v,ao=some ⟨b,off,none⟩/\b<w.heap.size/\w.cell? ⟨b,off+i,none⟩=some v/\HeldE (aE .i32) Z w v (L.getD i []):=by
 obtain ⟨h1,h2,h3⟩:=h.spots;refine ⟨h1,h2,fun i hi=>?_⟩;obtain ⟨b,off,rfl,hb,hz,C,hC,v,rfl,hv⟩:=h3 i hi;have h0:=hC 0 (by decide);refine ⟨b,off,v,rfl,hb,?_,hv⟩
 simpa [rowE,slE] using h0
theorem xh(Z:an)(v xv:Value)(p:Pn)(xs:List Int)(w:World)(wd n:Nat)(hv:HeldE lineE Z w v p.L)(hx:HeldE (aE .i32) Z w xv xs)(hZ:∀ b,Z b->b<w.heap.size)(hs:eJ wd n)(hp:PnOk wd n p)(hn:xs.length<=1000000)(hr:bI xs)(Bt:okT xs) :
  Calls Tryz.prog 42 #[.agg #[v,.int .i64 p.r,.int .i64 p.c,.bool p.pd,.bool p.au],xv] w (fun e w'=>∃ v',e=.returned (.agg #[v',.int .i64 (bH wd p (bj xs)).r,.int .i64 (bH wd p (bj xs)).c,.bool (bH wd p (bj xs)).pd,.bool (bH wd p (bj xs)).au])/\HeldE lineE (fun b=>Z b\/(w.heap.size<=b/\b<w'.heap.size)) w' v' (bH wd p (bj xs)).L/\Below w.heap.size w w'):=by
 obtain ⟨ao,ca,rfl⟩:=hv.len;obtain ⟨xo,xc,rfl⟩:=hx.len;have Cc:p.L.length=n:=hp.1;obtain ⟨W,hW,hb,hz,hl0⟩:=gw w (.slice ao p.L.length ca) (.int .i64 p.r) (.int .i64 p.c) (.bool p.pd) (.bool p.au) (.slice none 0 0) (.int .i64 0) (.int .i64 0) (.bool false) (.bool false);obtain ⟨gb,hgb⟩:=ae (w.heap.size);obtain ⟨gz,BV⟩:=ae (w.heap.size+1);have BD:RB w Z gb gz p.L p.r p.c p.pd p.au ao ca W:=by
  refine ⟨by rw [hgb];exact hb,(hv.below hl0).zone (fun x _ hx=>⟨.inl hx,?_,?_⟩),by rw [BV];exact hz,hl0,by omega,by omega,by omega⟩
  ·have:=hZ x hx;omega
  ·have:=hZ x hx;omega
 have HG:=ab (And.intro hgb BV);have Dd:=ab BD;have DL:=ab hs;have HPO:=ab hp;have F9:=ab (mv (fun b=>Z b) _ xs W (hx.below hl0) hn hr);have Pz:=ab (And.intro hn (And.intro hr Bt));have Lx:=ab (show gb<W.heap.size/\gz<W.heap.size from by have h1:=hb.lt;have h2:=hz.lt;omega);obtain ⟨xn,Km⟩:=ae (xs.length);rw [Cc] at hW ⊢;rw [<-Km] at F9 ⊢;obtain ⟨⟨L0,r0',c0',pd0,au0⟩,KZ⟩ : ∃ q,q=p:=⟨_,rfl⟩;subst KZ
 dsimp only at *
 have AL:=ab Cc;obtain ⟨p0,KZ⟩ : ∃ p0:Pn,p0=⟨L0,r0',c0',pd0,au0⟩:=⟨_,rfl⟩;rw [<-KZ] at HPO;rw [<-KZ];have PH:=ab KZ;clear hv hx hZ hs hp hn hr Bt hb hz hl0 hgb BV BD Cc Km KZ
 go_enter Tryz.func42,Tryz.ntmps42
 go_upto_region 1 with (fail)
 rw [<-hW];clear hW;rw [<-HG.out.2];rw [<-HG.out.1]
 go_wp2_with fail
 refine F9.out.mono ?_;rintro e w1 ⟨cv,rfl,AA,b1⟩;have DW:HeldE rowE (fun b=>W.heap.size<=b) w1 cv (bj xs):=AA.held fun b hb _=>hb
 obtain ⟨co,cc,rfl⟩:=DW.len;obtain ⟨cs,hcs⟩:=ae (bj xs);have DU:=ab (show ∀ t ∈ cs,okT t/\bI t/\0<t.length/\t.length<=1000000 from by
  rw [hcs];intro t ht;have:=qd t ht;exact ⟨r6 Pz.out.2.2 t ht,qe Pz.out.2.1 t ht,this.1,by have:=Pz.out.1;omega⟩)
 rw [<-hcs] at DW ⊢;have Nx:=ab hcs;obtain ⟨m,hm⟩:=ae (cs.length);rw [<-hm] at DW ⊢;have Pg:=ab DW;have DX:=DW.max;have Ma:=ab DX;have HM:=ab hm;have HRB1:=ab (Dd.out.below b1);have HW1:=ab (show W.heap.size<=w1.heap.size from b1.size);clear AA b1 DW hcs hm F9 Dd DX;go_wp2
 go_loopw [6] (fun iv wr=>∃ (i:Nat) (P:Pn) (o:Option Addr) (k:Nat),i<=m/\iv=.int .i64 i/\P=bH wd p0 (cs.take i)/\RB w Z gb gz P.L P.r P.c P.pd P.au o k wr/\Upd (fun b=>b=gb) w1 wr) (fun iv _=>m - (intOf iv).toNat)
 case atStart=>exact ⟨0,p0,ao,ca,Nat.zero_le _,rfl,by rw [List.take_zero];rfl,by rw [PH.out];exact HRB1.out,Upd.refl _ _⟩
 case round =>
  obtain ⟨i,P,o,k,hi,rfl,hP,BD,hu⟩:=hrel;obtain ⟨wv,Cb⟩:=ae (wr);subst Cb;have Ld:PnOk wd n P:=by rw [hP];exact PnOk.lay DL.out _ _ HPO.out
  by_cases hlt:i<m
  ·have j1:decide ((i:Int)<(m:Int))=true:=ah (by omega);have j2:decide (i<m)=true:=ah (by omega);have NP:(i:Int)<(m:Int):=by omega
   have Pm:IntKind.i64.wrap ((i:Int)+1)=(i:Int)+1:=by
    have:=Ma.out;have:=HM.out;unfold maxLen at this;rw [IntKind.wrap_i64];omega
   have N6:HeldE rowE (fun b=>(W.heap.size<=b/\b≠gb)/\b≠gz) wv (.slice co m cc) cs:=(Pg.out.zone fun b _ hz=>⟨⟨hz,by have:=Lx.out;omega⟩,by have:=Lx.out;omega⟩).upd hu fun b hz e=>hz.1.2 e
   have Gp:=kd N6;have hmc:=Gp.2.1;obtain ⟨bc,oc,tv,rfl,_,hcell,Dy⟩:=Gp.2.2 i (by rw [<-HM.out];exact hlt);clear Gp;obtain ⟨t,ht⟩:=ae (cs.getD i []);rw [<-ht] at Dy;have If:t ∈ cs:=by
    rw [ht,show cs.getD i []=cs[i]'(by rw [<-HM.out];exact hlt) from by simp [List.getD,List.getElem?_eq_getElem (show i<cs.length from by rw [<-HM.out];exact hlt)]];exact List.getElem_mem _
   obtain ⟨t1,t2,t3,t4⟩:=DU.out t If;have HT:=ab (And.intro t1 (And.intro t2 (And.intro t3 t4)));have Bf:=ab (show putC wd P t=bH wd p0 (cs.take (i+1)) from by
    rw [hP,List.take_succ_eq_append_getElem (show i<cs.length from by rw [<-HM.out];exact hlt),gX,ht]
    simp [List.getD,List.getElem?_eq_getElem (show i<cs.length from by rw [<-HM.out];exact hlt)])
   obtain ⟨ta,tk,rfl⟩:=Dy.len;have Mw:=(eY Dy).2.1;obtain ⟨bt,ot,rfl,_,hc0⟩:=(eY Dy).2.2 0 t3;rw [Nat.add_zero] at hc0;obtain ⟨tn,EN⟩:=ae (t.length);have IM:=ab EN;obtain ⟨q0,Jl⟩:=ae (t.getD 0 0);rw [<-Jl] at hc0;have Ey:=ab (ek q0 wv);rw [<-EN] at Dy hcell Mw;have htn0:0<tn:=by omega
   have htni:(0:Int)<(tn:Int):=by omega
   have HTV:=ab Dy;have HCELL:=ab hcell;have Ow:=ab hc0;have Mk:=ab BD;have HU:=ab hu;have HPI:=ab Ld;have PC:=ab Jl;have Mn:P.L.length=n:=Ld.1;have Om:=ab (show bc<wv.heap.size/\bc≠gb/\bt<wv.heap.size/\bt≠gb from by
    obtain ⟨_,_,h3⟩:=N6.spots;obtain ⟨b,off,e,h4,h5,C,hC,v9,rfl,hv9⟩:=h3 i (by rw [<-HM.out];exact hlt)
    cases e
    obtain ⟨_,_,g3⟩:=Dy.spots;obtain ⟨b2,off2,e2,g4,g5,_⟩:=g3 0 t3
    cases e2
    exact ⟨h4,h5.1.2,g4,g5.1.2⟩)
   have IO:=ab (show ∀ w',Upd (fun b=>b=gb) wv w'->w'.cell? ⟨bc,oc+i,none⟩=some (.slice (some ⟨bt,ot,none⟩) tn tk)/\HeldE (aE .i32) (fun b=>(W.heap.size<=b/\b≠gb)/\b≠gz) w' (.slice (some ⟨bt,ot,none⟩) tn tk) t from fun w' h=>⟨(World.cell?_of_block (a:=⟨bc,oc+i,none⟩) (h.block bc Om.out.1 Om.out.2.1)).trans HCELL.out,HTV.out.upd h fun b hz e=>hz.1.2 e⟩)
   cases BU:bL q0 with
   |false =>
    rw [BU] at Ey;have ED:=ab (show bL (t.getD 0 0)=false from by rw [<-Jl];exact BU);have PF:=yt wd P t1 (by rw [<-Jl];exact BU);obtain ⟨n1,n2,n3,n4,n5⟩:=Ld.nat DL.out;obtain ⟨wt,hwt⟩:=ae (wdC t);obtain ⟨LP,Gb⟩:=ae ((putC wd P t).L);obtain ⟨rr,C7⟩:=ae ((putC wd P t).r);obtain ⟨c9,hcc⟩:=ae ((putC wd P t).c);obtain ⟨pp,A6⟩:=ae ((putC wd P t).pd);obtain ⟨KR,Ke⟩ : ∃ KR:Int,KR=(fq P.L wd P.r2 (P.c2 wd) (P.pd2 wd) P.au (wdC t):Nat):=⟨_,rfl⟩;obtain ⟨KC,J3⟩ : ∃ KC:Int,KC=(dB wd (P.c2 wd) (P.pd2 wd) P.au (wdC t):Nat):=⟨_,rfl⟩;have Ly:=ab (show LP.length=n from by rw [Gb];exact (Ld.putC DL.out t).1);have O4:=ab (show putC wd P t=⟨LP,rr,c9,pp,P.au⟩ from by rw [Gb,C7,hcc,A6,PF];rfl);have LL:=ab (show ∀ (Zq:an) (w':World) (x:Value),HeldE lineE Zq w' (.slice o n k) P.L->HeldE (aE .i32) Zq w' x (t.take 16)->(∀ b,Zq b->b<w'.heap.size)->Calls Tryz.prog 77 #[.agg #[.slice o n k,.int .i64 P.r,.int .i64 P.c,.bool P.pd,.bool P.au],.int .i64 wt,x] w' (fun e w2=>∃ v',e=.returned (.tuple #[.agg #[v',.int .i64 rr,.int .i64 c9,.bool pp,.bool P.au],.agg #[.int .i64 KR,.int .i64 KC,.bool false]])/\HeldE lineE (fun b=>Zq b\/(w'.heap.size<=b/\b<w2.heap.size)) w2 v' LP/\Below w'.heap.size w' w2) from fun Zq w' x h1 h2 h3=>by
     have h:=tO Zq (.slice o n k) P.L P.r P.c P.pd P.au (wdC t) x (t.take 16) w' wd h1 h2 h3 (Ld.even DL.out) _ _ _ n1 n2 n3 n4 n5;rw [Gb,C7,hcc,A6,PF,Ke,J3,hwt];exact h)
    have OD:=ab (show ∀ (Zq:an) (w':World),HeldE (aE .i32) Zq w' (.slice (some ⟨bt,ot,none⟩) tn tk) t->(∀ b,Zq b->b<w'.heap.size)->Calls Tryz.prog 97 #[.slice (some ⟨bt,ot,none⟩) tn tk] w' (Gives w' (.int .i64 wt)) from fun Zq w' h1 h2=>by rw [hwt];exact qf Zq _ t w' h1 h2 t3 t4 t2);have Ox:=ab (show ∀ (Zq:an) (w':World),HeldE (aE .i32) Zq w' (.slice (some ⟨bt,ot,none⟩) tn tk) t->(∀ b,Zq b->b<w'.heap.size)->Calls Tryz.prog 92 #[.slice (some ⟨bt,ot,none⟩) tn tk] w' (iI 21 .i32 w' (t.take 16)) from fun Zq w' h1 h2=>iW Zq _ t w' h1 h2 t3 t4);obtain ⟨⟨PL,Pr',Pc',Ppd,Pau⟩,IT⟩ : ∃ q,q=P:=⟨_,rfl⟩;subst IT
    dsimp only at *
    clear PF n1 n2 n3 n4 n5 hwt Gb C7 hcc A6 Ke J3 hP BD hu N6 If t1 t2 t3 t4 ht Dy Jl Ld BU EN
    go_wp2_with fail
    refine Ey.out.mono ?_;rintro e wb ⟨rfl,bb⟩;have UB:=ab (HU.out.trans (Upd.ofBelow bb |>.mono fun b hb e=>absurd hb (by have:=HU.out.size;omega)));have D2:=ab (Mk.out.below bb);have Lb:=ab (show ∀ w',Upd (fun b=>b=gb) wb w'->Upd (fun b=>b=gb) wv w' from fun w' h=>(Upd.ofBelow bb |>.mono fun b hb e=>absurd hb (by omega)).trans h);clear bb hcell hc0
    go_upto_region 6 with (fail)
    obtain ⟨Db,Gd⟩ : ∃ CC:Array Bool->World->Prop,CC=fun L8 w'=>Upd (fun b=>b=gb) wb w'/\(Mix.one L8 15=0->Below wb.heap.size wb w')/\(Mix.one L8 15=1->∃ o9 k9,RB w Z gb gz LP rr c9 pp Pau o9 k9 w'):=⟨_,rfl⟩
    obtain ⟨JY,DH⟩ : ∃ XX:World->World->Prop,XX=fun x y=>Upd (fun b=>b=gb) x y:=⟨_,rfl⟩
    obtain ⟨LZ,Hrgpst,Hp,GQ,Ie,Hm,GG,Iq,Gu,Hg,Ir,Gr,E7,Fh,DZ,Ff,Hrgpe14,Hrgpe15⟩:=Reg.e16 JY
     (fun xx _=>xx=.agg #[.slice o n k,.int .i64 Pr',.int .i64 Pc',.bool Ppd,.bool Pau])
     (fun xx _=>xx=.slice (some ⟨bc,oc,none⟩) m cc)
     (fun xx _=>xx=.int .i64 i)
     (fun xx _=>xx=.pointer (some ⟨bc,oc+i,none⟩))
     (fun xx _=>xx=.slice (some ⟨bt,ot,none⟩) tn tk)
     (fun xx _=>xx=.int .i64 wt)
     (fun xx _=>xx=.slice (some ⟨bc,oc,none⟩) m cc)
     (fun xx _=>xx=.int .i64 i)
     (fun xx _=>xx=.pointer (some ⟨bc,oc+i,none⟩))
     (fun xx _=>xx=.slice (some ⟨bt,ot,none⟩) tn tk)
     (fun x w'=>HeldE (aE .i32) (fun b=>wb.heap.size<=b/\b≠gb) w' x (t.take 16))
     (fun x w'=>∃ o9 k9,x=.tuple #[.agg #[.slice o9 n k9,.int .i64 rr,.int .i64 c9,.bool pp,.bool Pau],.agg #[.int .i64 KR,.int .i64 KC,.bool false]]/\HeldE lineE (fun b=>(((Z b\/w.heap.size<=b)/\b≠gb/\b≠gz)/\b<wb.heap.size)\/wb.heap.size<=b) w' (.slice o9 n k9) LP)
     (fun x w'=>∃ o9 k9,x=.tuple #[.agg #[.slice o9 n k9,.int .i64 rr,.int .i64 c9,.bool pp,.bool Pau],.agg #[.int .i64 KR,.int .i64 KC,.bool false]]/\HeldE lineE (fun b=>(((Z b\/w.heap.size<=b)/\b≠gb/\b≠gz)/\b<wb.heap.size)\/wb.heap.size<=b) w' (.slice o9 n k9) LP)
     (fun x w'=>∃ o9 k9,x=.agg #[.slice o9 n k9,.int .i64 rr,.int .i64 c9,.bool pp,.bool Pau]/\HeldE lineE (fun b=>(((Z b\/w.heap.size<=b)/\b≠gb/\b≠gz)/\b<wb.heap.size)\/wb.heap.size<=b) w' (.slice o9 n k9) LP)
     (fun xx _=>xx=.agg #[.int .i64 KR,.int .i64 KC,.bool false])
     (fun xx _=>xx=undef)
     (s10:=fun x w w1 hx h=>by rw [DH] at hx;first | exact h | exact HeldE.upd h hx (fun b hz e=>hz.2 e) | (obtain ⟨o9,k9,e9,h9⟩:=h;exact ⟨o9,k9,e9,h9.upd hx (fun b hz e=>by have h8:=D2.out.1.lt;rcases hz with hz | hz;exact hz.1.2.1 e;omega)⟩))
     (s11:=fun x w w1 hx h=>by rw [DH] at hx;first | exact h | exact HeldE.upd h hx (fun b hz e=>hz.2 e) | (obtain ⟨o9,k9,e9,h9⟩:=h;exact ⟨o9,k9,e9,h9.upd hx (fun b hz e=>by have h8:=D2.out.1.lt;rcases hz with hz | hz;exact hz.1.2.1 e;omega)⟩))
     (s12:=fun x w w1 hx h=>by rw [DH] at hx;first | exact h | exact HeldE.upd h hx (fun b hz e=>hz.2 e) | (obtain ⟨o9,k9,e9,h9⟩:=h;exact ⟨o9,k9,e9,h9.upd hx (fun b hz e=>by have h8:=D2.out.1.lt;rcases hz with hz | hz;exact hz.1.2.1 e;omega)⟩))
     (s13:=fun x w w1 hx h=>by rw [DH] at hx;first | exact h | exact HeldE.upd h hx (fun b hz e=>hz.2 e) | (obtain ⟨o9,k9,e9,h9⟩:=h;exact ⟨o9,k9,e9,h9.upd hx (fun b hz e=>by have h8:=D2.out.1.lt;rcases hz with hz | hz;exact hz.1.2.1 e;omega)⟩))
    have DG:Hid (∀ i L w,(i == 15)=false ->  Db L w->Db (L.setIfInBounds i true) w):=ab (by
     intro i L w q h;simp only [Bool.or_eq_false_iff,beq_eq_false_iff_ne] at q;rw [Gd] at h ⊢;simp only [Mix.one_ne q];exact h)
    have ID:Hid (∀ L w w1,Db L w->Below w.heap.size w w1->Db L w1):=ab (by
     intro L w w1 h hb;rw [Gd] at h ⊢
     (obtain ⟨q1,q2,q4⟩:=h;exact ⟨q1.trans (Upd.ofBelow hb |>.mono fun b hb e=>absurd hb (by have:=q1.size;omega)),fun e=>(q2 e).trans (hb.mono (q2 e).size),fun e=>by obtain ⟨o9,k9,h1⟩:=q4 e;exact ⟨o9,k9,h1.below hb⟩⟩))
    have Ga:=ab (show ∀ w,JY w w from fun w=>by rw [DH];exact Upd.refl _ _);have Fa:=ab (show ∀ w w1,Below w.heap.size w w1->JY w w1 from fun w w1 hb=>by rw [DH];exact Upd.ofBelow hb |>.mono fun b h e=>absurd h (by omega));have Hrgpc:=ab (show Db (Array.replicate 16 false) wb.drew from by rw [Gd];exact ⟨(Upd.refl _ _).drew,fun _=>(Below.refl _ _).drew,fun e=>absurd e (by decide)⟩);have CN:=ab (fun (i:Nat) L w v q (h:Db L w) (e:LZ i v w)=>Reg.hk (DG.out i L w q h) e (Ga.out w));have BL:=ab Gd;have HrgphX:=ab DH;clear Gd DH
    go_wp2_with fail
    refine Reg.regionF LZ Db JY Hrgpst.out (by kernel_rfl) (by kernel_rfl) (by kernel_rfl) Hrgpc.out (fun Frgp AY=>?_);simp only [Reg.frame,Reg.dsts,List.map_cons,List.map_nil,Mix.put_lit,Reg.put_none,List.set_cons_succ,List.set_cons_zero,Nat.zero_add,Nat.reduceAdd] at AY;refine ⟨⟨?_,?_,?_,?_,?_,?_,?_,?_,?_,?_,?_,?_,?_,?_,?_,?_,trivial⟩,?_⟩
    ·intro Lq wq xq hh;simp only [AY];refine Reg.go rfl ?_;have hc:Db Lq wq:=hh.cls;rw [BL.out] at hc;have hq:=(D2.out.below (hc.2.1 (Mix.one_un (hh.notYet 15 (by kernel_rfl))))).1;rw [Mn] at hq;have q0:=hq.cell 0 _ rfl;have q1:=hq.cell 1 _ rfl;have q2:=hq.cell 2 _ rfl;have q3:=hq.cell 3 _ rfl;have q4:=hq.cell 4 _ rfl;clear hc;have HK:=CN.out 0 _ _ _ rfl hh.cls ((Hp.out _ _).mpr rfl);go_simp;exact HK.out
    ·intro Lq wq xq hh;simp only [AY];refine Reg.go rfl ?_;have HK:=CN.out 1 _ _ _ rfl hh.cls ((GQ.out _ _).mpr rfl);go_simp;exact HK.out
    ·intro Lq wq xq hh;simp only [AY];refine Reg.go rfl ?_;have HK:=CN.out 2 _ _ _ rfl hh.cls ((Ie.out _ _).mpr rfl);go_simp;exact HK.out
    ·intro Lq wq xq hh;simp only [AY,(GQ.out _ _).mp (hh.v 1),(Ie.out _ _).mp (hh.v 2)];refine Reg.go rfl ?_;have HK:=CN.out 3 _ _ _ rfl hh.cls ((Hm.out _ _).mpr rfl);go_simp;exact HK.out
    ·intro Lq wq xq hh;simp only [AY,(Hm.out _ _).mp (hh.v 3)];refine Reg.go rfl ?_;have hc:Db Lq wq:=hh.cls;rw [BL.out] at hc;have q0:=(IO.out wq (Lb.out wq hc.1)).1;clear hc;have HK:=CN.out 4 _ _ _ rfl hh.cls ((GG.out _ _).mpr rfl);go_simp;exact HK.out
    ·intro Lq wq xq hh;simp only [AY,(GG.out _ _).mp (hh.v 4)];refine Reg.go rfl ?_;unfold Reg.upon;have hc:Db Lq wq:=hh.cls;rw [BL.out] at hc;go_simp;refine (OD.out (fun b=>b<wq.heap.size) wq ((IO.out wq (Lb.out wq hc.1)).2.zone fun b hb _=>hb) (fun _ h=>h)).mono ?_;rintro e w2 ⟨rfl,hb⟩;exact ⟨_,rfl,DG.out 5 Lq w2 rfl  (ID.out Lq wq w2 hh.cls hb),(by rw [Iq.out];try rfl),Fa.out wq w2 hb⟩
    ·intro Lq wq xq hh;simp only [AY];refine Reg.go rfl ?_;have HK:=CN.out 6 _ _ _ rfl hh.cls ((Gu.out _ _).mpr rfl);go_simp;exact HK.out
    ·intro Lq wq xq hh;simp only [AY];refine Reg.go rfl ?_;have HK:=CN.out 7 _ _ _ rfl hh.cls ((Hg.out _ _).mpr rfl);go_simp;exact HK.out
    ·intro Lq wq xq hh;simp only [AY,(Gu.out _ _).mp (hh.v 6),(Hg.out _ _).mp (hh.v 7)];refine Reg.go rfl ?_;have HK:=CN.out 8 _ _ _ rfl hh.cls ((Ir.out _ _).mpr rfl);go_simp;exact HK.out
    ·intro Lq wq xq hh;simp only [AY,(Ir.out _ _).mp (hh.v 8)];refine Reg.go rfl ?_;have hc:Db Lq wq:=hh.cls;rw [BL.out] at hc;have q0:=(IO.out wq (Lb.out wq hc.1)).1;clear hc;have HK:=CN.out 9 _ _ _ rfl hh.cls ((Gr.out _ _).mpr rfl);go_simp;exact HK.out
    ·intro Lq wq xq hh;simp only [AY,(Gr.out _ _).mp (hh.v 9)];refine Reg.go rfl ?_;unfold Reg.upon;have hc:Db Lq wq:=hh.cls;rw [BL.out] at hc;have hfi:=Ox.out (fun b=>b<wq.heap.size) wq ((IO.out wq (Lb.out wq hc.1)).2.zone fun b hb _=>hb) (fun _ h=>h);have hsz:=hc.1.size;have h8:=D2.out.1.lt;clear hc;go_simp;refine hfi.mono ?_;rintro e w9 ⟨v9,rfl,A7,b9⟩;refine ⟨_,rfl,DG.out 10 Lq w9 rfl  (ID.out Lq wq w9 hh.cls b9),?_,Fa.out wq w9 b9⟩;rw [E7.out];exact (HeldE.ownedInts A7).zone fun b _ hz=>⟨Nat.le_trans hsz hz,by omega⟩
    ·intro Lq wq xq hh;have d10:=(E7.out _ _).mp (hh.v 10);simp only [AY,(Hp.out _ _).mp (hh.v 0),(Iq.out _ _).mp (hh.v 5)];refine Reg.go rfl ?_;unfold Reg.upon;have hc:Db Lq wq:=hh.cls;rw [BL.out] at hc;have Bj:=hc.2.1 (Mix.one_un (hh.notYet 15 (by kernel_rfl)));have JR:=D2.out.arg.below Bj;rw [Mn] at JR;have hput:=LL.out (fun b=>((((Z b\/w.heap.size<=b)/\b≠gb/\b≠gz)/\b<wb.heap.size)\/wb.heap.size<=b)/\b<wq.heap.size) wq (xq 10) (JR.zone fun b hb hz=>⟨.inl hz,hb⟩) (HeldE.zone d10 fun b hb hz=>⟨.inr hz.1,hb⟩) (fun b h=>h.2);clear hc JR;go_simp;refine hput.mono ?_;rintro e w9 ⟨v9,rfl,h9,b9⟩;obtain ⟨o9,k9,ev9⟩:=h9.len;rw [Ly.out] at ev9;subst ev9;refine ⟨_,rfl,DG.out 11 Lq w9 rfl  (ID.out Lq wq w9 hh.cls b9),?_,Fa.out wq w9 b9⟩;rw [Fh.out];refine ⟨o9,k9,rfl,h9.zone fun b _ hz=>?_⟩
     rcases hz with hz | hz
     ·exact hz.1
     ·exact .inr (Nat.le_trans Bj.size hz.1)
    ·intro Lq wq xq hh;have d11:=(Fh.out _ _).mp (hh.v 11);simp only [AY];refine Reg.go rfl ?_;unfold Reg.upon;go_simp;exact ⟨DG.out 12 Lq wq rfl  hh.cls,(by rw [DZ.out];exact d11),Ga.out _⟩
    ·intro Lq wq xq hh;have d12:=(DZ.out _ _).mp (hh.v 12);simp only [AY];refine Reg.go rfl ?_;unfold Reg.upon;obtain ⟨o9,k9,e9,h9⟩:=d12;rw [e9];go_simp;exact ⟨DG.out 13 Lq wq rfl  hh.cls,(by rw [Ff.out];exact ⟨o9,k9,rfl,h9⟩),Ga.out _⟩
    ·intro Lq wq xq hh;have d12:=(DZ.out _ _).mp (hh.v 12);simp only [AY];refine Reg.go rfl ?_;unfold Reg.upon;obtain ⟨o9,k9,e9,h9⟩:=d12;rw [e9];go_simp;exact ⟨DG.out 14 Lq wq rfl  hh.cls,(by rw [Hrgpe14.out]),Ga.out _⟩
    ·intro Lq wq xq hh;have d13:=(Ff.out _ _).mp (hh.v 13);simp only [AY];refine Reg.go rfl ?_;unfold Reg.upon;have hc:Db Lq wq:=hh.cls;rw [BL.out] at hc;have Bj:=hc.2.1 hh.un;obtain ⟨o9,k9,e9,hz⟩:=d13;have Aj:=(D2.out.below Bj).1;have s0:=Aj.cell 0 _ rfl;have s1:=Aj.cell 1 _ rfl;have s2:=Aj.cell 2 _ rfl;have s3:=Aj.cell 3 _ rfl;have s4:=Aj.cell 4 _ rfl;have f0:=Aj.free 0;have f1:=Aj.free 1;have f2:=Aj.free 2;have f3:=Aj.free 3;have f4:=Aj.free 4;rw [Mn] at s0;have q10:=RB.store (r3:=rr) (c3:=c9) (pd3:=pp) (au3:=Pau) (o':=o9) (k':=k9) (L3:=LP) D2.out Bj (by rw [Ly.out];exact hz.zone fun x hx hy=>by rcases hy with hy | hy;exact .inl hy;exact .inr ⟨hy,hx⟩);rw [Ly.out] at q10;have hF:Db (Lq.setIfInBounds 15 true) (((((wq.setCell ⟨gb,0,none⟩ (.slice o9 n k9)).setCell ⟨gb,1,none⟩ (.int .i64 rr)).setCell ⟨gb,2,none⟩ (.int .i64 c9)).setCell ⟨gb,3,none⟩ (.bool pp)).setCell ⟨gb,4,none⟩ (.bool Pau)):=by
      rw [BL.out];refine ⟨hc.1.trans (aT gb _ _ _ _ _),fun e=>?_,fun _=>⟨o9,k9,q10⟩⟩;rw [Mix.one_set (by rw [hh.size];decide)] at e;exact absurd e (by decide)
     have hE:LZ 15 undef (((((wq.setCell ⟨gb,0,none⟩ (.slice o9 n k9)).setCell ⟨gb,1,none⟩ (.int .i64 rr)).setCell ⟨gb,2,none⟩ (.int .i64 c9)).setCell ⟨gb,3,none⟩ (.bool pp)).setCell ⟨gb,4,none⟩ (.bool Pau)):=by rw [Hrgpe15.out]
     have hX:JY wq (((((wq.setCell ⟨gb,0,none⟩ (.slice o9 n k9)).setCell ⟨gb,1,none⟩ (.int .i64 rr)).setCell ⟨gb,2,none⟩ (.int .i64 c9)).setCell ⟨gb,3,none⟩ (.bool pp)).setCell ⟨gb,4,none⟩ (.bool Pau)):=by rw [HrgphX.out];exact aT _ _ _ _ _ _
     rw [e9];clear hc hz Aj q10 Bj;go_simp;exact ⟨hF,hE,hX⟩
    intro xq wrgp hcrgp hvrgp;rw [BL.out] at hcrgp;simp only [AY];clear hvrgp AY CN DG Ga Hrgpst Hrgpc BL HrgphX ID Fa Hp GQ Ie Hm GG Iq Gu Hg Ir Gr E7 Fh DZ Ff Hrgpe14 Hrgpe15;obtain ⟨u9,_,Nl⟩:=hcrgp;obtain ⟨o9,k9,Cd⟩:=Nl (by kernel_rfl);have AN:=ab (And.intro Cd (UB.out.trans u9));clear u9 Nl Cd;go_wp2
    go_roundw
    case rel=>exact ⟨i+1,⟨LP,rr,c9,pp,Pau⟩,o9,k9,by omega,by go_num,by rw [<-Bf.out,O4.out],AN.out.1,AN.out.2⟩
    case measure=>simp [intOf] <;> omega
   |true =>
    rw [BU] at Ey;have ED:=ab (show bL (t.getD 0 0)=true from by rw [<-Jl];exact BU);have FE:=ab t4;have HTC:=ab (eY Dy).2.2;clear hP BD hu N6 If t1 t2 t3 t4 ht Jl BU EN
    go_wp2_with fail
    refine Ey.out.mono ?_;rintro e wb ⟨rfl,bb⟩;have UB:=ab (HU.out.trans (Upd.ofBelow bb |>.mono fun b hb e=>absurd hb (by have:=HU.out.size;omega)));have D2:=ab (Mk.out.below bb);have Lb:=ab (show ∀ w',Upd (fun b=>b=gb) wb w'->Upd (fun b=>b=gb) wv w' from fun w' h=>(Upd.ofBelow bb |>.mono fun b hb e=>absurd hb (by omega)).trans h);clear bb hcell Dy hc0;go_wp2
    go_loopw [7] (fun kv wr=>∃ (j:Nat) (P2:Pn) (o2:Option Addr) (k2:Nat),j<=tn/\kv=.int .i64 j/\P2=(t.take j).foldl (doP wd) P/\RB w Z gb gz P2.L P2.r P2.c P2.pd P2.au o2 k2 wr/\Upd (fun b=>b=gb) wb wr) (fun kv _=>tn - (intOf kv).toNat)
    case atStart=>exact ⟨0,P,o,k,Nat.zero_le _,rfl,by rw [List.take_zero];rfl,D2.out,Upd.refl _ _⟩
    case round =>
     obtain ⟨j,P2,o2,k2,hj,rfl,Nj,Kg,Io⟩:=hrel;obtain ⟨wd2,hwd2⟩:=ae (wr);subst hwd2;have I9:PnOk wd n P2:=by rw [Nj];exact PnOk.dos DL.out _ _ HPI.out
     have DJ:=(IO.out wd2 (Lb.out wd2 Io)).1
     by_cases hjt:j<tn
     ·have j3:decide ((j:Int)<(tn:Int))=true:=ah (by omega);have j4:decide (j<tn)=true:=ah (by omega);have Ez:(j:Int)<(tn:Int):=by omega
      have hwj2:IntKind.i64.wrap ((j:Int)+1)=(j:Int)+1:=by
       have:=FE.out;have:=IM.out;rw [IntKind.wrap_i64];omega
      obtain ⟨b2,t2,e2,hb2,OI⟩:=HTC.out j (by rw [<-IM.out];exact hjt)
      cases e2
      obtain ⟨K,hK⟩:=ae (t.getD j 0);rw [<-hK] at OI;have OV:=ab (show ∀ w',Upd (fun b=>b=gb) wv w'->w'.cell? ⟨bt,ot+j,none⟩=some (.int .i32 K) from fun w' h=>(World.cell?_of_block (a:=⟨bt,ot+j,none⟩) (h.block bt Om.out.2.2.1 Om.out.2.2.2)).trans OI);have hjk:j<tk:=by omega
      have HNX2:=ab (show doP wd P2 K=(t.take (j+1)).foldl (doP wd) P from by
       rw [Nj,List.take_succ_eq_append_getElem (show j<t.length from by rw [<-IM.out];exact hjt),List.foldl_append,hK]
       simp [List.getD,List.getElem?_eq_getElem (show j<t.length from by rw [<-IM.out];exact hjt)])
      obtain ⟨n1,n2,n3,n4,n5⟩:=I9.nat DL.out;obtain ⟨LP,Gb⟩:=ae ((doP wd P2 K).L);obtain ⟨rr,C7⟩:=ae ((doP wd P2 K).r);obtain ⟨c9,hcc⟩:=ae ((doP wd P2 K).c);obtain ⟨pp,A6⟩:=ae ((doP wd P2 K).pd);obtain ⟨sk,hsk⟩:=ae (bL K);have Ly:=ab (show LP.length=n from by rw [Gb];exact (I9.do_ DL.out K).1);have O4:=ab (show doP wd P2 K=⟨LP,rr,c9,pp,P2.au⟩ from by rw [Gb,C7,hcc,A6];rfl);have HDO:=ab (show ∀ (Zq:an) (w':World),HeldE lineE Zq w' (.slice o2 n k2) P2.L->(∀ b,Zq b->b<w'.heap.size)->Calls Tryz.prog 98 #[.agg #[.slice o2 n k2,.int .i64 P2.r,.int .i64 P2.c,.bool P2.pd,.bool P2.au],.int .i32 K] w' (fun e w2=>∃ v',e=.returned (.tuple #[.agg #[v',.int .i64 rr,.int .i64 c9,.bool pp,.bool P2.au],.bool sk])/\HeldE lineE (fun b=>Zq b\/(w'.heap.size<=b/\b<w2.heap.size)) w2 v' LP/\Below w'.heap.size w' w2) from fun Zq w' h1 h2=>by
       rw [Gb,C7,hcc,A6,hsk];exact yu Zq (.slice o2 n k2) P2.L P2.r P2.c P2.pd P2.au K w' h1 h2 wd (I9.even DL.out) _ _ n1 n2 n4 n5)
      have LQ:P2.L.length=n:=I9.1;have Iv:=ab Kg;have UB2:=ab Io;obtain ⟨⟨PL,Pr',Pc',Ppd,Pau⟩,IT⟩ : ∃ q,q=P2:=⟨_,rfl⟩;subst IT
      dsimp only at *
      clear Nj Kg Io I9 hK OI n1 n2 n3 n4 n5 Gb C7 hcc A6 hsk
      go_upto_region 10 with (fail)
      clear DJ;obtain ⟨DA,F4⟩ : ∃ CC:Array Bool->World->Prop,CC=fun L8 w'=>Upd (fun b=>b=gb) wd2 w'/\(Mix.one L8 12=0->Below wd2.heap.size wd2 w')/\(Mix.one L8 12=1->∃ o9 k9,RB w Z gb gz LP rr c9 pp Pau o9 k9 w'):=⟨_,rfl⟩
      obtain ⟨JX,Ei⟩ : ∃ XX:World->World->Prop,XX=fun x y=>Upd (fun b=>b=gb) x y:=⟨_,rfl⟩
      obtain ⟨LC,Hrgqst,GM,GT,Hy,Gv,GC,GH,GO,Gt,Id,Fr,Fx,Hrgqe11,Hrgqe12,_,_,_⟩:=Reg.e16 JX
       (fun xx _=>xx=.agg #[.slice o2 n k2,.int .i64 Pr',.int .i64 Pc',.bool Ppd,.bool Pau])
       (fun xx _=>xx=.slice (some ⟨bc,oc,none⟩) m cc)
       (fun xx _=>xx=.int .i64 i)
       (fun xx _=>xx=.pointer (some ⟨bc,oc+i,none⟩))
       (fun xx _=>xx=.slice (some ⟨bt,ot,none⟩) tn tk)
       (fun xx _=>xx=.int .i64 j)
       (fun xx _=>xx=.pointer (some ⟨bt,ot+j,none⟩))
       (fun xx _=>xx=.int .i32 K)
       (fun x w'=>∃ o9 k9,x=.tuple #[.agg #[.slice o9 n k9,.int .i64 rr,.int .i64 c9,.bool pp,.bool Pau],.bool sk]/\HeldE lineE (fun b=>(((Z b\/w.heap.size<=b)/\b≠gb/\b≠gz)/\b<wd2.heap.size)\/wd2.heap.size<=b) w' (.slice o9 n k9) LP)
       (fun x w'=>∃ o9 k9,x=.tuple #[.agg #[.slice o9 n k9,.int .i64 rr,.int .i64 c9,.bool pp,.bool Pau],.bool sk]/\HeldE lineE (fun b=>(((Z b\/w.heap.size<=b)/\b≠gb/\b≠gz)/\b<wd2.heap.size)\/wd2.heap.size<=b) w' (.slice o9 n k9) LP)
       (fun x w'=>∃ o9 k9,x=.agg #[.slice o9 n k9,.int .i64 rr,.int .i64 c9,.bool pp,.bool Pau]/\HeldE lineE (fun b=>(((Z b\/w.heap.size<=b)/\b≠gb/\b≠gz)/\b<wd2.heap.size)\/wd2.heap.size<=b) w' (.slice o9 n k9) LP)
       (fun xx _=>xx=.bool sk)
       (fun xx _=>xx=undef)
       (fun _ _=>True) (fun _ _=>True) (fun _ _=>True)
       (s8:=fun x w w1 hx h=>by rw [Ei] at hx;(obtain ⟨o9,k9,e9,h9⟩:=h;exact ⟨o9,k9,e9,h9.upd hx (fun b hz e=>by have h8:=Iv.out.1.lt;rcases hz with hz | hz;exact hz.1.2.1 e;omega)⟩))
       (s9:=fun x w w1 hx h=>by rw [Ei] at hx;(obtain ⟨o9,k9,e9,h9⟩:=h;exact ⟨o9,k9,e9,h9.upd hx (fun b hz e=>by have h8:=Iv.out.1.lt;rcases hz with hz | hz;exact hz.1.2.1 e;omega)⟩))
       (s10:=fun x w w1 hx h=>by rw [Ei] at hx;(obtain ⟨o9,k9,e9,h9⟩:=h;exact ⟨o9,k9,e9,h9.upd hx (fun b hz e=>by have h8:=Iv.out.1.lt;rcases hz with hz | hz;exact hz.1.2.1 e;omega)⟩))
      have EO:Hid (∀ i L w,(i == 12)=false ->  DA L w->DA (L.setIfInBounds i true) w):=ab (by
       intro i L w q h;simp only [Bool.or_eq_false_iff,beq_eq_false_iff_ne] at q;rw [F4] at h ⊢;simp only [Mix.one_ne q];exact h)
      have Hrgqb:Hid (∀ L w w1,DA L w->Below w.heap.size w w1->DA L w1):=ab (by
       intro L w w1 h hb;rw [F4] at h ⊢
       (obtain ⟨q1,q2,q4⟩:=h;exact ⟨q1.trans (Upd.ofBelow hb |>.mono fun b hb e=>absurd hb (by have:=q1.size;omega)),fun e=>(q2 e).trans (hb.mono (q2 e).size),fun e=>by obtain ⟨o9,k9,h1⟩:=q4 e;exact ⟨o9,k9,h1.below hb⟩⟩))
      have FO:=ab (show ∀ w,JX w w from fun w=>by rw [Ei];exact Upd.refl _ _);have Hrgqxb:=ab (show ∀ w w1,Below w.heap.size w w1->JX w w1 from fun w w1 hb=>by rw [Ei];exact Upd.ofBelow hb |>.mono fun b h e=>absurd h (by omega));have Hrgqc:=ab (show DA (Array.replicate 13 false) wd2.drew from by rw [F4];exact ⟨(Upd.refl _ _).drew,fun _=>(Below.refl _ _).drew,fun e=>absurd e (by decide)⟩);have Dn:=ab (fun (i:Nat) L w v q (h:DA L w) (e:LC i v w)=>Reg.hk (EO.out i L w q h) e (FO.out w));have Cp:=ab F4;have HrgqhX:=ab Ei;clear F4 Ei
      go_wp2_with fail
      refine Reg.regionF LC DA JX Hrgqst.out (by kernel_rfl) (by kernel_rfl) (by kernel_rfl) Hrgqc.out (fun Frgq Bd=>?_);simp only [Reg.frame,Reg.dsts,List.map_cons,List.map_nil,Mix.put_lit,Reg.put_none,List.set_cons_succ,List.set_cons_zero,Nat.zero_add,Nat.reduceAdd] at Bd;refine ⟨⟨?_,?_,?_,?_,?_,?_,?_,?_,?_,?_,?_,?_,?_,trivial⟩,?_⟩
      ·intro Lq wq xq hh;simp only [Bd];refine Reg.go rfl ?_;have hc:DA Lq wq:=hh.cls;rw [Cp.out] at hc;have hq:=(Iv.out.below (hc.2.1 (Mix.one_un (hh.notYet 12 (by kernel_rfl))))).1;rw [LQ] at hq;have q0:=hq.cell 0 _ rfl;have q1:=hq.cell 1 _ rfl;have q2:=hq.cell 2 _ rfl;have q3:=hq.cell 3 _ rfl;have q4:=hq.cell 4 _ rfl;clear hc;have HK:=Dn.out 0 _ _ _ rfl hh.cls ((GM.out _ _).mpr rfl);go_simp;exact HK.out
      ·intro Lq wq xq hh;simp only [Bd];refine Reg.go rfl ?_;have HK:=Dn.out 1 _ _ _ rfl hh.cls ((GT.out _ _).mpr rfl);go_simp;exact HK.out
      ·intro Lq wq xq hh;simp only [Bd];refine Reg.go rfl ?_;have HK:=Dn.out 2 _ _ _ rfl hh.cls ((Hy.out _ _).mpr rfl);go_simp;exact HK.out
      ·intro Lq wq xq hh;simp only [Bd,(GT.out _ _).mp (hh.v 1),(Hy.out _ _).mp (hh.v 2)];refine Reg.go rfl ?_;have HK:=Dn.out 3 _ _ _ rfl hh.cls ((Gv.out _ _).mpr rfl);go_simp;exact HK.out
      ·intro Lq wq xq hh;simp only [Bd,(Gv.out _ _).mp (hh.v 3)];refine Reg.go rfl ?_;have hc:DA Lq wq:=hh.cls;rw [Cp.out] at hc;have q0:=(IO.out wq (Lb.out wq (UB2.out.trans hc.1))).1;clear hc;have HK:=Dn.out 4 _ _ _ rfl hh.cls ((GC.out _ _).mpr rfl);go_simp;exact HK.out
      ·intro Lq wq xq hh;simp only [Bd];refine Reg.go rfl ?_;have HK:=Dn.out 5 _ _ _ rfl hh.cls ((GH.out _ _).mpr rfl);go_simp;exact HK.out
      ·intro Lq wq xq hh;simp only [Bd,(GC.out _ _).mp (hh.v 4),(GH.out _ _).mp (hh.v 5)];refine Reg.go rfl ?_;have HK:=Dn.out 6 _ _ _ rfl hh.cls ((GO.out _ _).mpr rfl);go_simp;exact HK.out
      ·intro Lq wq xq hh;simp only [Bd,(GO.out _ _).mp (hh.v 6)];refine Reg.go rfl ?_;have hc:DA Lq wq:=hh.cls;rw [Cp.out] at hc;have q0:=OV.out wq (Lb.out wq (UB2.out.trans hc.1));clear hc;have HK:=Dn.out 7 _ _ _ rfl hh.cls ((Gt.out _ _).mpr rfl);go_simp;exact HK.out
      ·intro Lq wq xq hh;simp only [Bd,(GM.out _ _).mp (hh.v 0),(Gt.out _ _).mp (hh.v 7)];refine Reg.go rfl ?_;unfold Reg.upon;have hc:DA Lq wq:=hh.cls;rw [Cp.out] at hc;have Bj:=hc.2.1 (Mix.one_un (hh.notYet 12 (by kernel_rfl)));have JR:=Iv.out.arg.below Bj;rw [LQ] at JR;have hput:=HDO.out (fun b=>((((Z b\/w.heap.size<=b)/\b≠gb/\b≠gz)/\b<wd2.heap.size))/\b<wq.heap.size) wq (JR.zone fun b hb hz=>⟨hz,hb⟩) (fun b h=>h.2);clear hc JR;go_simp;refine hput.mono ?_;rintro e w9 ⟨v9,rfl,h9,b9⟩;obtain ⟨o9,k9,ev9⟩:=h9.len;rw [Ly.out] at ev9;subst ev9;refine ⟨_,rfl,EO.out 8 Lq w9 rfl  (Hrgqb.out Lq wq w9 hh.cls b9),?_,Hrgqxb.out wq w9 b9⟩;rw [Id.out];refine ⟨o9,k9,rfl,h9.zone fun b _ hz=>?_⟩
       rcases hz with hz | hz
       ·exact .inl hz.1
       ·exact .inr (Nat.le_trans Bj.size hz.1)
      ·intro Lq wq xq hh;have d8:=(Id.out _ _).mp (hh.v 8);simp only [Bd];refine Reg.go rfl ?_;unfold Reg.upon;go_simp;exact ⟨EO.out 9 Lq wq rfl  hh.cls,(by rw [Fr.out];exact d8),FO.out _⟩
      ·intro Lq wq xq hh;have d9:=(Fr.out _ _).mp (hh.v 9);simp only [Bd];refine Reg.go rfl ?_;unfold Reg.upon;obtain ⟨o9,k9,e9,h9⟩:=d9;rw [e9];go_simp;exact ⟨EO.out 10 Lq wq rfl  hh.cls,(by rw [Fx.out];exact ⟨o9,k9,rfl,h9⟩),FO.out _⟩
      ·intro Lq wq xq hh;have d9:=(Fr.out _ _).mp (hh.v 9);simp only [Bd];refine Reg.go rfl ?_;unfold Reg.upon;obtain ⟨o9,k9,e9,h9⟩:=d9;rw [e9];go_simp;exact ⟨EO.out 11 Lq wq rfl  hh.cls,(by rw [Hrgqe11.out]),FO.out _⟩
      ·intro Lq wq xq hh;have d10:=(Fx.out _ _).mp (hh.v 10);simp only [Bd];refine Reg.go rfl ?_;unfold Reg.upon;have hc:DA Lq wq:=hh.cls;rw [Cp.out] at hc;have Bj:=hc.2.1 hh.un;obtain ⟨o9,k9,e9,hz⟩:=d10;have Aj:=(Iv.out.below Bj).1;have s0:=Aj.cell 0 _ rfl;have s1:=Aj.cell 1 _ rfl;have s2:=Aj.cell 2 _ rfl;have s3:=Aj.cell 3 _ rfl;have s4:=Aj.cell 4 _ rfl;have f0:=Aj.free 0;have f1:=Aj.free 1;have f2:=Aj.free 2;have f3:=Aj.free 3;have f4:=Aj.free 4;rw [LQ] at s0;have q10:=RB.store (r3:=rr) (c3:=c9) (pd3:=pp) (au3:=Pau) (o':=o9) (k':=k9) (L3:=LP) Iv.out Bj (by rw [Ly.out];exact hz.zone fun x hx hy=>by rcases hy with hy | hy;exact .inl hy;exact .inr ⟨hy,hx⟩);rw [Ly.out] at q10;have hF:DA (Lq.setIfInBounds 12 true) (((((wq.setCell ⟨gb,0,none⟩ (.slice o9 n k9)).setCell ⟨gb,1,none⟩ (.int .i64 rr)).setCell ⟨gb,2,none⟩ (.int .i64 c9)).setCell ⟨gb,3,none⟩ (.bool pp)).setCell ⟨gb,4,none⟩ (.bool Pau)):=by
        rw [Cp.out];refine ⟨hc.1.trans (aT gb _ _ _ _ _),fun e=>?_,fun _=>⟨o9,k9,q10⟩⟩;rw [Mix.one_set (by rw [hh.size];decide)] at e;exact absurd e (by decide)
       have hE:LC 12 undef (((((wq.setCell ⟨gb,0,none⟩ (.slice o9 n k9)).setCell ⟨gb,1,none⟩ (.int .i64 rr)).setCell ⟨gb,2,none⟩ (.int .i64 c9)).setCell ⟨gb,3,none⟩ (.bool pp)).setCell ⟨gb,4,none⟩ (.bool Pau)):=by rw [Hrgqe12.out]
       have hX:JX wq (((((wq.setCell ⟨gb,0,none⟩ (.slice o9 n k9)).setCell ⟨gb,1,none⟩ (.int .i64 rr)).setCell ⟨gb,2,none⟩ (.int .i64 c9)).setCell ⟨gb,3,none⟩ (.bool pp)).setCell ⟨gb,4,none⟩ (.bool Pau)):=by rw [HrgqhX.out];exact aT _ _ _ _ _ _
       rw [e9];clear hc hz Aj q10 Bj;go_simp;exact ⟨hF,hE,hX⟩
      intro xq wrgq hcrgq hvrgq;rw [Cp.out] at hcrgq;simp only [Bd];clear hvrgq Bd Dn EO FO Hrgqst Hrgqc Cp HrgqhX Hrgqb Hrgqxb GM GT Hy Gv GC GH GO Gt Id Fr Fx Hrgqe11 Hrgqe12;obtain ⟨u9,_,He⟩:=hcrgq;obtain ⟨o9,k9,Cd⟩:=He (by kernel_rfl);have AN:=ab (And.intro Cd (UB2.out.trans u9));clear u9 He Cd;go_wp2
      go_roundw
      case rel=>exact ⟨j+1,⟨LP,rr,c9,pp,Pau⟩,o9,k9,by omega,by go_num,by rw [<-HNX2.out,O4.out],AN.out.1,AN.out.2⟩
      case measure=>simp [intOf] <;> omega
     ·obtain rfl:j=tn:=by omega
      have j3:decide ((j:Int)<(j:Int))=false:=ai (by omega);have AN:=ab (And.intro Kg (UB.out.trans Io));have M0:=ab (show P2=bH wd p0 (cs.take (i+1)) from by
       rw [<-Bf.out,Nj,IM.out,List.take_length];unfold putC;rw [if_pos ED.out])
      clear Nj Kg Io I9;go_wp2
      go_roundw
      case rel=>exact ⟨i+1,P2,o2,k2,by omega,by go_num,M0.out,AN.out.1,AN.out.2⟩
      case measure=>simp [intOf] <;> omega
  ·obtain rfl:i=m:=by omega
   have j1:decide ((i:Int)<(i:Int))=false:=ai (by omega);have hPe:P=bH wd p0 (bj xs):=by rw [hP,HM.out,List.take_length,Nx.out]
   have Nr:=ab hPe;have Mn:P.L.length=n:=Ld.1;have Mk:=ab BD;obtain ⟨⟨PL,Pr',Pc',Ppd,Pau⟩,IT⟩ : ∃ q,q=P:=⟨_,rfl⟩;subst IT
   dsimp only at *
   have q0:=BD.1.cell 0 _ rfl;rw [Mn] at q0;have q1:=BD.1.cell 1 _ rfl;have q2:=BD.1.cell 2 _ rfl;have q3:=BD.1.cell 3 _ rfl;have q4:=BD.1.cell 4 _ rfl;have s0:=BD.2.2.1.cell 0 _ rfl;have s1:=BD.2.2.1.cell 1 _ rfl;have s2:=BD.2.2.1.cell 2 _ rfl;have s3:=BD.2.2.1.cell 3 _ rfl;have s4:=BD.2.2.1.cell 4 _ rfl;have f0:=BD.2.2.1.free 0;have f1:=BD.2.2.1.free 1;have f2:=BD.2.2.1.free 2;have f3:=BD.2.2.1.free 3;have f4:=BD.2.2.1.free 4;have Kd:=BD.fin;rw [Mn] at Kd;have HF:=ab Kd;have HH:=ab (cH BD.2.2.1 (.slice o n k) (.int .i64 Pr') (.int .i64 Pc') (.bool Ppd) (.bool Pau));obtain ⟨W5,AK⟩:=ae ((((((wv.setCell ⟨gz,0,none⟩ (.slice o n k)).setCell ⟨gz,1,none⟩ (.int .i64 Pr')).setCell ⟨gz,2,none⟩ (.int .i64 Pc')).setCell ⟨gz,3,none⟩ (.bool Ppd)).setCell ⟨gz,4,none⟩ (.bool Pau)));have Di:=ab AK;rw [<-AK] at HF HH;clear hP BD hu Ld hPe Kd AK;go_wp2;rw [<-Di.out];have k0:=HH.out.cell 0 _ rfl;have k1:=HH.out.cell 1 _ rfl;have k2:=HH.out.cell 2 _ rfl;have k3:=HH.out.cell 3 _ rfl;have k4:=HH.out.cell 4 _ rfl;exact bodyPost_ret (v:=.agg #[.slice o n k,.int .i64 Pr',.int .i64 Pc',.bool Ppd,.bool Pau]) (by simp [results,Tryz.results42,go_sem,k0,k1,k2,k3,k4]) rfl ⟨_,by rw [<-Nr.out],by rw [<-Nr.out];exact HF.out.1,HF.out.2⟩
end Go.Proofs.YtoeggiplcaegoaaGreatDoor
