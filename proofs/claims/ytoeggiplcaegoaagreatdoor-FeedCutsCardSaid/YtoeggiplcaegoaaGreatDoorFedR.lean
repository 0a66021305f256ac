import Derived.Test.YtoeggiplcaegoaaGreatDoorZ0
import Derived.Test.YtoeggiplcaegoaaGreatDoorMg9
import Derived.Test.YtoeggiplcaegoaaGreatDoorMg8
import Derived.Test.YtoeggiplcaegoaaGreatDoorPlcX
import Derived.Test.YtoeggiplcaegoaaGreatDoorMg5
import Derived.Test.YtoeggiplcaegoaaGreatDoorMg4
set_option maxRecDepth 100000
set_option linter.unusedVariables false
set_option linter.unusedSimpArgs false
set_option maxHeartbeats 8000000
namespace Go.Proofs.YtoeggiplcaegoaaGreatDoor
open Go.RowKit Go.ChangeShapes Go.WideShapes
def okT(xs:List Int):Prop:=∀ x ∈ xs,bg x=x
theorem okT.map{t:List Int}(h:okT t):t.map bg=t:=by
 conv=>rhs;rw [<-List.map_id t]
 exact List.map_congr_left h
theorem okT.num{t:List Int}(h:okT t):eJ t (clN t)=t.take 16:=by
 unfold eJ clN;have e:t.take (min t.length 16)=t.take 16:=by
  by_cases hl:t.length<=16
  ·rw [Nat.min_eq_left hl,List.take_of_length_le (Nat.le_refl _),List.take_of_length_le hl]
  ·rw [Nat.min_eq_right (by omega)]
 rw [e];have h2:okT (t.take 16):=fun x hx=>h x (List.mem_of_mem_take hx)
 exact h2.map
theorem okT.wide{t:List Int}(h:okT t)(hs:bT (t.getD 0 0)=false):wdC t=clW t:=by
 unfold wdC clW;rw [if_neg (by rw [hs];decide)];unfold kj gwI cwW;rw [h.map];have hl:(t.take 16).length=clN t:=by unfold clN;rw [List.length_take,Nat.min_comm]
 rw [hl,mZ (ys:=t) (qs:=aq t) (clN t) fun i hi=>by
  have hi16:i<16:=by unfold clN at hi;omega
  refine ⟨lP _ _ _ _ hi16,?_⟩;unfold aq;rw [List.map_take];exact lP _ _ _ _ hi16]
theorem zA(wd:Nat)(p:Pn){t:List Int}(h:okT t)(hs:bT (t.getD 0 0)=false):putC wd p t=vM wd p (wdC t) (t.take 16):=by
 unfold putC;rw [if_neg (by rw [hs];decide),h.wide hs,h.num]
theorem zB{xs:List Int}(h:okT xs):∀ t ∈ bJ xs,okT t:=fun t ht x hx=>by
 unfold bJ at ht;obtain ⟨q,_,rfl⟩:=List.mem_map.1 ht;exact h x (List.mem_of_mem_drop (List.mem_of_mem_take hx))
theorem yw{xs:List Int}:∀ t ∈ bJ xs,0<t.length/\t.length<=xs.length:=fun t ht=>by
 unfold bJ at ht;obtain ⟨q,hq,rfl⟩:=List.mem_map.1 ht;have:=jX _ _ q hq;rw [ff xs q (by omega) (by omega)];omega
theorem qD{xs:List Int}(h:cQ xs):∀ t ∈ bJ xs,cQ t:=fun t ht i hi=>by
 unfold bJ at ht;obtain ⟨q,hq,rfl⟩:=List.mem_map.1 ht;have h0:=jX _ _ q hq;rw [ff xs q (by omega) (by omega)] at hi;have e:(bw xs q).getD i 0=xs.getD (q.1+i) 0:=by
  unfold bw
  simp [List.getD,List.getElem?_take,hi]
 rw [e];exact h _ (by omega)
theorem vi{Z:an}{w:World}{ao:Option Addr}{n cap:Nat}{L:List (List Int)}(h:HeldE rowE Z w (.slice ao n cap) L):n=L.length/\n<=cap/\∀ i,i<L.length->∃ b off v,ao=some ⟨b,off,none⟩/\b<w.heap.size/\w.cell? ⟨b,off+i,none⟩=some v/\HeldE (aF .i32) Z w v (L.getD i []):=by
 obtain ⟨h1,h2,h3⟩:=h.spots;refine ⟨h1,h2,fun i hi=>?_⟩;obtain ⟨b,off,rfl,hb,hz,C,hC,v,rfl,hv⟩:=h3 i hi;have h0:=hC 0 (by decide);refine ⟨b,off,v,rfl,hb,?_,hv⟩
 simpa [rowE,slE] using h0
theorem qE(Z:an)(v xv:Value)(p:Pn)(xs:List Int)(w:World)(wd n:Nat)(hv:HeldE lineE Z w v p.L)(hx:HeldE (aF .i32) Z w xv xs)(hZ:∀ b,Z b->b<w.heap.size)(hs:fy wd n)(hp:PnOk wd n p)(hn:xs.length<=1000000)(hr:cQ xs)(Dc:okT xs) :
  Calls Tryz.prog 42 #[.agg #[v,.int .i64 p.r,.int .i64 p.c,.bool p.pd,.bool p.au],xv] w (fun e w'=>∃ v',e=.returned (.agg #[v',.int .i64 (bP wd p (bJ xs)).r,.int .i64 (bP wd p (bJ xs)).c,.bool (bP wd p (bJ xs)).pd,.bool (bP wd p (bJ xs)).au])/\HeldE lineE (fun b=>Z b\/(w.heap.size<=b/\b<w'.heap.size)) w' v' (bP wd p (bJ xs)).L/\Below w.heap.size w w'):=by
 obtain ⟨ao,ca,rfl⟩:=hv.len;obtain ⟨xo,xc,rfl⟩:=hx.len;have DA:p.L.length=n:=hp.1;obtain ⟨W,hW,hb,hz,hl0⟩:=gF w (.slice ao p.L.length ca) (.int .i64 p.r) (.int .i64 p.c) (.bool p.pd) (.bool p.au) (.slice none 0 0) (.int .i64 0) (.int .i64 0) (.bool false) (.bool false);obtain ⟨gb,hgb⟩:=ae (w.heap.size);obtain ⟨gz,DR⟩:=ae (w.heap.size+1);have CM:RB w Z gb gz p.L p.r p.c p.pd p.au ao ca W:=by
  refine ⟨by rw [hgb];exact hb,(hv.below hl0).zone (fun x _ hx=>⟨.inl hx,?_,?_⟩),by rw [DR];exact hz,hl0,by omega,by omega,by omega⟩
  ·have:=hZ x hx;omega
  ·have:=hZ x hx;omega
 have HG:=ab (And.intro hgb DR);have DM:=ab CM;have EY:=ab hs;have HPO:=ab hp;have Mm:=ab (tF (fun b=>Z b) _ xs W (hx.below hl0) hn hr);have Qy:=ab (And.intro hn (And.intro hr Dc));have ML:=ab (show gb<W.heap.size/\gz<W.heap.size from by have h1:=hb.lt;have h2:=hz.lt;omega);obtain ⟨xn,Lm⟩:=ae (xs.length);rw [DA] at hW ⊢;rw [<-Lm] at Mm ⊢;obtain ⟨⟨L0,r0',c0',pd0,au0⟩,Ky⟩ : ∃ q,q=p:=⟨_,rfl⟩;subst Ky
 dsimp only at *
 have Ch:=ab DA;obtain ⟨p0,Ky⟩ : ∃ p0:Pn,p0=⟨L0,r0',c0',pd0,au0⟩:=⟨_,rfl⟩;rw [<-Ky] at HPO;rw [<-Ky];have Nn:=ab Ky;clear hv hx hZ hs hp hn hr Dc hb hz hl0 hgb DR CM DA Lm Ky
 go_enter Tryz.func42,Tryz.ntmps42
 go_upto_region 1 with (fail)
 rw [<-hW];clear hW;rw [<-HG.out.2];rw [<-HG.out.1]
 go_wp2_with fail
 refine Mm.out.mono ?_;rintro e w1 ⟨cv,rfl,BX,b1⟩;have Ge:HeldE rowE (fun b=>W.heap.size<=b) w1 cv (bJ xs):=BX.held fun b hb _=>hb
 obtain ⟨co,cc,rfl⟩:=Ge.len;obtain ⟨cs,hcs⟩:=ae (bJ xs);have Hd:=ab (show ∀ t ∈ cs,okT t/\cQ t/\0<t.length/\t.length<=1000000 from by
  rw [hcs];intro t ht;have:=yw t ht;exact ⟨zB Qy.out.2.2 t ht,qD Qy.out.2.1 t ht,this.1,by have:=Qy.out.1;omega⟩)
 rw [<-hcs] at Ge ⊢;have Oc:=ab hcs;obtain ⟨m,hm⟩:=ae (cs.length);rw [<-hm] at Ge ⊢;have Qu:=ab Ge;have Em:=Ge.max;have Mg:=ab Em;have HM:=ab hm;have HRB1:=ab (DM.out.below b1);have HW1:=ab (show W.heap.size<=w1.heap.size from b1.size);clear BX b1 Ge hcs hm Mm DM Em;go_wp2
 go_loopw [6] (fun iv wr=>∃ (i:Nat) (P:Pn) (o:Option Addr) (k:Nat),i<=m/\iv=.int .i64 i/\P=bP wd p0 (cs.take i)/\RB w Z gb gz P.L P.r P.c P.pd P.au o k wr/\Upd (fun b=>b=gb) w1 wr) (fun iv _=>m - (intOf iv).toNat)
 case atStart=>exact ⟨0,p0,ao,ca,Nat.zero_le _,rfl,by rw [List.take_zero];rfl,by rw [Nn.out];exact HRB1.out,Upd.refl _ _⟩
 case round =>
  obtain ⟨i,P,o,k,hi,rfl,hP,CM,hu⟩:=hrel;obtain ⟨wv,C9⟩:=ae (wr);subst C9;have LN:PnOk wd n P:=by rw [hP];exact PnOk.lay EY.out _ _ HPO.out
  by_cases hlt:i<m
  ·have j1:decide ((i:Int)<(m:Int))=true:=ah (by omega);have j2:decide (i<m)=true:=ah (by omega);have O6:(i:Int)<(m:Int):=by omega
   have PW:IntKind.i64.wrap ((i:Int)+1)=(i:Int)+1:=by
    have:=Mg.out;have:=HM.out;unfold maxLen at this;rw [IntKind.wrap_i64];omega
   have Pc:HeldE rowE (fun b=>(W.heap.size<=b/\b≠gb)/\b≠gz) wv (.slice co m cc) cs:=(Qu.out.zone fun b _ hz=>⟨⟨hz,by have:=ML.out;omega⟩,by have:=ML.out;omega⟩).upd hu fun b hz e=>hz.1.2 e
   have JO:=vi Pc;have hmc:=JO.2.1;obtain ⟨bc,oc,tv,rfl,_,hcell,Ku⟩:=JO.2.2 i (by rw [<-HM.out];exact hlt);clear JO;obtain ⟨t,ht⟩:=ae (cs.getD i []);rw [<-ht] at Ku;have MH:t ∈ cs:=by
    rw [ht,show cs.getD i []=cs[i]'(by rw [<-HM.out];exact hlt) from by simp [List.getD,List.getElem?_eq_getElem (show i<cs.length from by rw [<-HM.out];exact hlt)]];exact List.getElem_mem _
   obtain ⟨t1,t2,t3,t4⟩:=Hd.out t MH;have HT:=ab (And.intro t1 (And.intro t2 (And.intro t3 t4)));have Co:=ab (show putC wd P t=bP wd p0 (cs.take (i+1)) from by
    rw [hP,List.take_succ_eq_append_getElem (show i<cs.length from by rw [<-HM.out];exact hlt),ie,ht]
    simp [List.getD,List.getElem?_eq_getElem (show i<cs.length from by rw [<-HM.out];exact hlt)])
   obtain ⟨ta,tk,rfl⟩:=Ku.len;have OK:=(i9 Ku).2.1;obtain ⟨bt,ot,rfl,_,hc0⟩:=(i9 Ku).2.2 0 t3;rw [Nat.add_zero] at hc0;obtain ⟨tn,Jt⟩:=ae (t.length);have KB:=ab Jt;obtain ⟨q0,Mu⟩:=ae (t.getD 0 0);rw [<-Mu] at hc0;have GA:=ab (eY q0 wv);rw [<-Jt] at Ku hcell OK;have htn0:0<tn:=by omega
   have htni:(0:Int)<(tn:Int):=by omega
   have HTV:=ab Ku;have HCELL:=ab hcell;have Pj:=ab hc0;have Mb:=ab CM;have HU:=ab hu;have HPI:=ab LN;have HQ0:=ab Mu;have Nx:P.L.length=n:=LN.1;have Px:=ab (show bc<wv.heap.size/\bc≠gb/\bt<wv.heap.size/\bt≠gb from by
    obtain ⟨_,_,h3⟩:=Pc.spots;obtain ⟨b,off,e,h4,h5,C,hC,v9,rfl,hv9⟩:=h3 i (by rw [<-HM.out];exact hlt)
    cases e
    obtain ⟨_,_,g3⟩:=Ku.spots;obtain ⟨b2,off2,e2,g4,g5,_⟩:=g3 0 t3
    cases e2
    exact ⟨h4,h5.1.2,g4,g5.1.2⟩)
   have I9:=ab (show ∀ w',Upd (fun b=>b=gb) wv w'->w'.cell? ⟨bc,oc+i,none⟩=some (.slice (some ⟨bt,ot,none⟩) tn tk)/\HeldE (aF .i32) (fun b=>(W.heap.size<=b/\b≠gb)/\b≠gz) w' (.slice (some ⟨bt,ot,none⟩) tn tk) t from fun w' h=>⟨(World.cell?_of_block (a:=⟨bc,oc+i,none⟩) (h.block bc Px.out.1 Px.out.2.1)).trans HCELL.out,HTV.out.upd h fun b hz e=>hz.1.2 e⟩)
   cases DG:bT q0 with
   |false =>
    rw [DG] at GA;have E4:=ab (show bT (t.getD 0 0)=false from by rw [<-Mu];exact DG);have L5:=zA wd P t1 (by rw [<-Mu];exact DG);obtain ⟨n1,n2,n3,n4,n5⟩:=LN.nat EY.out;obtain ⟨wt,hwt⟩:=ae (wdC t);obtain ⟨LP,Gq⟩:=ae ((putC wd P t).L);obtain ⟨rr,DO⟩:=ae ((putC wd P t).r);obtain ⟨c9,hcc⟩:=ae ((putC wd P t).c);obtain ⟨pp,Cj⟩:=ae ((putC wd P t).pd);obtain ⟨KR,KA⟩ : ∃ KR:Int,KR=(fx P.L wd P.r2 (P.c2 wd) (P.pd2 wd) P.au (wdC t):Nat):=⟨_,rfl⟩;obtain ⟨KC,Kr⟩ : ∃ KC:Int,KC=(dE wd (P.c2 wd) (P.pd2 wd) P.au (wdC t):Nat):=⟨_,rfl⟩;have L9:=ab (show LP.length=n from by rw [Gq];exact (LN.putC EY.out t).1);have QM:=ab (show putC wd P t=⟨LP,rr,c9,pp,P.au⟩ from by rw [Gq,DO,hcc,Cj,L5];rfl);have Mj:=ab (show ∀ (Zq:an) (w':World) (x:Value),HeldE lineE Zq w' (.slice o n k) P.L->HeldE (aF .i32) Zq w' x (t.take 16)->(∀ b,Zq b->b<w'.heap.size)->Calls Tryz.prog 77 #[.agg #[.slice o n k,.int .i64 P.r,.int .i64 P.c,.bool P.pd,.bool P.au],.int .i64 wt,x] w' (fun e w2=>∃ v',e=.returned (.tuple #[.agg #[v',.int .i64 rr,.int .i64 c9,.bool pp,.bool P.au],.agg #[.int .i64 KR,.int .i64 KC,.bool false]])/\HeldE lineE (fun b=>Zq b\/(w'.heap.size<=b/\b<w2.heap.size)) w2 v' LP/\Below w'.heap.size w' w2) from fun Zq w' x h1 h2 h3=>by
     have h:=uS Zq (.slice o n k) P.L P.r P.c P.pd P.au (wdC t) x (t.take 16) w' wd h1 h2 h3 (LN.even EY.out) _ _ _ n1 n2 n3 n4 n5;rw [Gq,DO,hcc,Cj,L5,KA,Kr,hwt];exact h)
    have PM:=ab (show ∀ (Zq:an) (w':World),HeldE (aF .i32) Zq w' (.slice (some ⟨bt,ot,none⟩) tn tk) t->(∀ b,Zq b->b<w'.heap.size)->Calls Tryz.prog 97 #[.slice (some ⟨bt,ot,none⟩) tn tk] w' (Gives w' (.int .i64 wt)) from fun Zq w' h1 h2=>by rw [hwt];exact qF Zq _ t w' h1 h2 t3 t4 t2);have HFI:=ab (show ∀ (Zq:an) (w':World),HeldE (aF .i32) Zq w' (.slice (some ⟨bt,ot,none⟩) tn tk) t->(∀ b,Zq b->b<w'.heap.size)->Calls Tryz.prog 92 #[.slice (some ⟨bt,ot,none⟩) tn tk] w' (j6 21 .i32 w' (t.take 16)) from fun Zq w' h1 h2=>mo Zq _ t w' h1 h2 t3 t4);obtain ⟨⟨PL,Pr',Pc',Ppd,Pau⟩,K6⟩ : ∃ q,q=P:=⟨_,rfl⟩;subst K6
    dsimp only at *
    clear L5 n1 n2 n3 n4 n5 hwt Gq DO hcc Cj KA Kr hP CM hu Pc MH t1 t2 t3 t4 ht Ku Mu LN DG Jt
    go_wp2_with fail
    refine GA.out.mono ?_;rintro e wb ⟨rfl,bb⟩;have UB:=ab (HU.out.trans (Upd.ofBelow bb |>.mono fun b hb e=>absurd hb (by have:=HU.out.size;omega)));have EL:=ab (Mb.out.below bb);have LD:=ab (show ∀ w',Upd (fun b=>b=gb) wb w'->Upd (fun b=>b=gb) wv w' from fun w' h=>(Upd.ofBelow bb |>.mono fun b hb e=>absurd hb (by omega)).trans h);clear bb hcell hc0
    go_upto_region 6 with (fail)
    obtain ⟨DP,F8⟩ : ∃ CC:Array Bool->World->Prop,CC=fun L8 w'=>Upd (fun b=>b=gb) wb w'/\(Mix.one L8 15=0->Below wb.heap.size wb w')/\(Mix.one L8 15=1->∃ o9 k9,RB w Z gb gz LP rr c9 pp Pau o9 k9 w'):=⟨_,rfl⟩
    obtain ⟨J3,Ee⟩ : ∃ XX:World->World->Prop,XX=fun x y=>Upd (fun b=>b=gb) x y:=⟨_,rfl⟩
    obtain ⟨Ma,Hrgpst,Hw,Ih,Hf,GK,Iq,Hl,GP,GU,Hg,G3,Fw,Fx,Ek,FA,Hrgpe14,Hrgpe15⟩:=Reg.e16 J3
     (fun xx _=>xx=.agg #[.slice o n k,.int .i64 Pr',.int .i64 Pc',.bool Ppd,.bool Pau])
     (fun xx _=>xx=.slice (some ⟨bc,oc,none⟩) m cc)
     (fun xx _=>xx=.int .i64 i)
     (fun xx _=>xx=.pointer (some ⟨bc,oc+i,none⟩))
     (fun xx _=>xx=.slice (some ⟨bt,ot,none⟩) tn tk)
     (fun xx _=>xx=.int .i64 wt)
     (fun xx _=>xx=.slice (some ⟨bc,oc,none⟩) m cc)
     (fun xx _=>xx=.int .i64 i)
     (fun xx _=>xx=.pointer (some ⟨bc,oc+i,none⟩))
     (fun xx _=>xx=.slice (some ⟨bt,ot,none⟩) tn tk)
     (fun x w'=>HeldE (aF .i32) (fun b=>wb.heap.size<=b/\b≠gb) w' x (t.take 16))
     (fun x w'=>∃ o9 k9,x=.tuple #[.agg #[.slice o9 n k9,.int .i64 rr,.int .i64 c9,.bool pp,.bool Pau],.agg #[.int .i64 KR,.int .i64 KC,.bool false]]/\HeldE lineE (fun b=>(((Z b\/w.heap.size<=b)/\b≠gb/\b≠gz)/\b<wb.heap.size)\/wb.heap.size<=b) w' (.slice o9 n k9) LP)
     (fun x w'=>∃ o9 k9,x=.tuple #[.agg #[.slice o9 n k9,.int .i64 rr,.int .i64 c9,.bool pp,.bool Pau],.agg #[.int .i64 KR,.int .i64 KC,.bool false]]/\HeldE lineE (fun b=>(((Z b\/w.heap.size<=b)/\b≠gb/\b≠gz)/\b<wb.heap.size)\/wb.heap.size<=b) w' (.slice o9 n k9) LP)
     (fun x w'=>∃ o9 k9,x=.agg #[.slice o9 n k9,.int .i64 rr,.int .i64 c9,.bool pp,.bool Pau]/\HeldE lineE (fun b=>(((Z b\/w.heap.size<=b)/\b≠gb/\b≠gz)/\b<wb.heap.size)\/wb.heap.size<=b) w' (.slice o9 n k9) LP)
     (fun xx _=>xx=.agg #[.int .i64 KR,.int .i64 KC,.bool false])
     (fun xx _=>xx=undef)
     (s10:=fun x w w1 hx h=>by rw [Ee] at hx;first | exact h | exact HeldE.upd h hx (fun b hz e=>hz.2 e) | (obtain ⟨o9,k9,e9,h9⟩:=h;exact ⟨o9,k9,e9,h9.upd hx (fun b hz e=>by have h8:=EL.out.1.lt;rcases hz with hz | hz;exact hz.1.2.1 e;omega)⟩))
     (s11:=fun x w w1 hx h=>by rw [Ee] at hx;first | exact h | exact HeldE.upd h hx (fun b hz e=>hz.2 e) | (obtain ⟨o9,k9,e9,h9⟩:=h;exact ⟨o9,k9,e9,h9.upd hx (fun b hz e=>by have h8:=EL.out.1.lt;rcases hz with hz | hz;exact hz.1.2.1 e;omega)⟩))
     (s12:=fun x w w1 hx h=>by rw [Ee] at hx;first | exact h | exact HeldE.upd h hx (fun b hz e=>hz.2 e) | (obtain ⟨o9,k9,e9,h9⟩:=h;exact ⟨o9,k9,e9,h9.upd hx (fun b hz e=>by have h8:=EL.out.1.lt;rcases hz with hz | hz;exact hz.1.2.1 e;omega)⟩))
     (s13:=fun x w w1 hx h=>by rw [Ee] at hx;first | exact h | exact HeldE.upd h hx (fun b hz e=>hz.2 e) | (obtain ⟨o9,k9,e9,h9⟩:=h;exact ⟨o9,k9,e9,h9.upd hx (fun b hz e=>by have h8:=EL.out.1.lt;rcases hz with hz | hz;exact hz.1.2.1 e;omega)⟩))
    have Ec:Hid (∀ i L w,(i == 15)=false ->  DP L w->DP (L.setIfInBounds i true) w):=ab (by
     intro i L w q h;simp only [Bool.or_eq_false_iff,beq_eq_false_iff_ne] at q;rw [F8] at h ⊢;simp only [Mix.one_ne q];exact h)
    have IL:Hid (∀ L w w1,DP L w->Below w.heap.size w w1->DP L w1):=ab (by
     intro L w w1 h hb;rw [F8] at h ⊢
     (obtain ⟨q1,q2,q4⟩:=h;exact ⟨q1.trans (Upd.ofBelow hb |>.mono fun b hb e=>absurd hb (by have:=q1.size;omega)),fun e=>(q2 e).trans (hb.mono (q2 e).size),fun e=>by obtain ⟨o9,k9,h1⟩:=q4 e;exact ⟨o9,k9,h1.below hb⟩⟩))
    have Gw:=ab (show ∀ w,J3 w w from fun w=>by rw [Ee];exact Upd.refl _ _);have Fo:=ab (show ∀ w w1,Below w.heap.size w w1->J3 w w1 from fun w w1 hb=>by rw [Ee];exact Upd.ofBelow hb |>.mono fun b h e=>absurd h (by omega));have Hrgpc:=ab (show DP (Array.replicate 16 false) wb.drew from by rw [F8];exact ⟨(Upd.refl _ _).drew,fun _=>(Below.refl _ _).drew,fun e=>absurd e (by decide)⟩);have DC:=ab (fun (i:Nat) L w v q (h:DP L w) (e:Ma i v w)=>Reg.hk (Ec.out i L w q h) e (Gw.out w));have CX:=ab F8;have HrgphX:=ab Ee;clear F8 Ee
    go_wp2_with fail
    refine Reg.regionF Ma DP J3 Hrgpst.out (by kernel_rfl) (by kernel_rfl) (by kernel_rfl) Hrgpc.out (fun Frgp Cb=>?_);simp only [Reg.frame,Reg.dsts,List.map_cons,List.map_nil,Mix.put_lit,Reg.put_none,List.set_cons_succ,List.set_cons_zero,Nat.zero_add,Nat.reduceAdd] at Cb;refine ⟨⟨?_,?_,?_,?_,?_,?_,?_,?_,?_,?_,?_,?_,?_,?_,?_,?_,trivial⟩,?_⟩
    ·intro Lq wq xq hh;simp only [Cb];refine Reg.go rfl ?_;have hc:DP Lq wq:=hh.cls;rw [CX.out] at hc;have hq:=(EL.out.below (hc.2.1 (Mix.one_un (hh.notYet 15 (by kernel_rfl))))).1;rw [Nx] at hq;have q0:=hq.cell 0 _ rfl;have q1:=hq.cell 1 _ rfl;have q2:=hq.cell 2 _ rfl;have q3:=hq.cell 3 _ rfl;have q4:=hq.cell 4 _ rfl;clear hc;have HK:=DC.out 0 _ _ _ rfl hh.cls ((Hw.out _ _).mpr rfl);go_simp;exact HK.out
    ·intro Lq wq xq hh;simp only [Cb];refine Reg.go rfl ?_;have HK:=DC.out 1 _ _ _ rfl hh.cls ((Ih.out _ _).mpr rfl);go_simp;exact HK.out
    ·intro Lq wq xq hh;simp only [Cb];refine Reg.go rfl ?_;have HK:=DC.out 2 _ _ _ rfl hh.cls ((Hf.out _ _).mpr rfl);go_simp;exact HK.out
    ·intro Lq wq xq hh;simp only [Cb,(Ih.out _ _).mp (hh.v 1),(Hf.out _ _).mp (hh.v 2)];refine Reg.go rfl ?_;have HK:=DC.out 3 _ _ _ rfl hh.cls ((GK.out _ _).mpr rfl);go_simp;exact HK.out
    ·intro Lq wq xq hh;simp only [Cb,(GK.out _ _).mp (hh.v 3)];refine Reg.go rfl ?_;have hc:DP Lq wq:=hh.cls;rw [CX.out] at hc;have q0:=(I9.out wq (LD.out wq hc.1)).1;clear hc;have HK:=DC.out 4 _ _ _ rfl hh.cls ((Iq.out _ _).mpr rfl);go_simp;exact HK.out
    ·intro Lq wq xq hh;simp only [Cb,(Iq.out _ _).mp (hh.v 4)];refine Reg.go rfl ?_;unfold Reg.upon;have hc:DP Lq wq:=hh.cls;rw [CX.out] at hc;go_simp;refine (PM.out (fun b=>b<wq.heap.size) wq ((I9.out wq (LD.out wq hc.1)).2.zone fun b hb _=>hb) (fun _ h=>h)).mono ?_;rintro e w2 ⟨rfl,hb⟩;exact ⟨_,rfl,Ec.out 5 Lq w2 rfl  (IL.out Lq wq w2 hh.cls hb),(by rw [Hl.out];try rfl),Fo.out wq w2 hb⟩
    ·intro Lq wq xq hh;simp only [Cb];refine Reg.go rfl ?_;have HK:=DC.out 6 _ _ _ rfl hh.cls ((GP.out _ _).mpr rfl);go_simp;exact HK.out
    ·intro Lq wq xq hh;simp only [Cb];refine Reg.go rfl ?_;have HK:=DC.out 7 _ _ _ rfl hh.cls ((GU.out _ _).mpr rfl);go_simp;exact HK.out
    ·intro Lq wq xq hh;simp only [Cb,(GP.out _ _).mp (hh.v 6),(GU.out _ _).mp (hh.v 7)];refine Reg.go rfl ?_;have HK:=DC.out 8 _ _ _ rfl hh.cls ((Hg.out _ _).mpr rfl);go_simp;exact HK.out
    ·intro Lq wq xq hh;simp only [Cb,(Hg.out _ _).mp (hh.v 8)];refine Reg.go rfl ?_;have hc:DP Lq wq:=hh.cls;rw [CX.out] at hc;have q0:=(I9.out wq (LD.out wq hc.1)).1;clear hc;have HK:=DC.out 9 _ _ _ rfl hh.cls ((G3.out _ _).mpr rfl);go_simp;exact HK.out
    ·intro Lq wq xq hh;simp only [Cb,(G3.out _ _).mp (hh.v 9)];refine Reg.go rfl ?_;unfold Reg.upon;have hc:DP Lq wq:=hh.cls;rw [CX.out] at hc;have hfi:=HFI.out (fun b=>b<wq.heap.size) wq ((I9.out wq (LD.out wq hc.1)).2.zone fun b hb _=>hb) (fun _ h=>h);have hsz:=hc.1.size;have h8:=EL.out.1.lt;clear hc;go_simp;refine hfi.mono ?_;rintro e w9 ⟨v9,rfl,Cf,b9⟩;refine ⟨_,rfl,Ec.out 10 Lq w9 rfl  (IL.out Lq wq w9 hh.cls b9),?_,Fo.out wq w9 b9⟩;rw [Fw.out];exact (HeldE.ownedInts Cf).zone fun b _ hz=>⟨Nat.le_trans hsz hz,by omega⟩
    ·intro Lq wq xq hh;have d10:=(Fw.out _ _).mp (hh.v 10);simp only [Cb,(Hw.out _ _).mp (hh.v 0),(Hl.out _ _).mp (hh.v 5)];refine Reg.go rfl ?_;unfold Reg.upon;have hc:DP Lq wq:=hh.cls;rw [CX.out] at hc;have Cp:=hc.2.1 (Mix.one_un (hh.notYet 15 (by kernel_rfl)));have JH:=EL.out.arg.below Cp;rw [Nx] at JH;have hput:=Mj.out (fun b=>((((Z b\/w.heap.size<=b)/\b≠gb/\b≠gz)/\b<wb.heap.size)\/wb.heap.size<=b)/\b<wq.heap.size) wq (xq 10) (JH.zone fun b hb hz=>⟨.inl hz,hb⟩) (HeldE.zone d10 fun b hb hz=>⟨.inr hz.1,hb⟩) (fun b h=>h.2);clear hc JH;go_simp;refine hput.mono ?_;rintro e w9 ⟨v9,rfl,h9,b9⟩;obtain ⟨o9,k9,ev9⟩:=h9.len;rw [L9.out] at ev9;subst ev9;refine ⟨_,rfl,Ec.out 11 Lq w9 rfl  (IL.out Lq wq w9 hh.cls b9),?_,Fo.out wq w9 b9⟩;rw [Fx.out];refine ⟨o9,k9,rfl,h9.zone fun b _ hz=>?_⟩
     rcases hz with hz | hz
     ·exact hz.1
     ·exact .inr (Nat.le_trans Cp.size hz.1)
    ·intro Lq wq xq hh;have d11:=(Fx.out _ _).mp (hh.v 11);simp only [Cb];refine Reg.go rfl ?_;unfold Reg.upon;go_simp;exact ⟨Ec.out 12 Lq wq rfl  hh.cls,(by rw [Ek.out];exact d11),Gw.out _⟩
    ·intro Lq wq xq hh;have d12:=(Ek.out _ _).mp (hh.v 12);simp only [Cb];refine Reg.go rfl ?_;unfold Reg.upon;obtain ⟨o9,k9,e9,h9⟩:=d12;rw [e9];go_simp;exact ⟨Ec.out 13 Lq wq rfl  hh.cls,(by rw [FA.out];exact ⟨o9,k9,rfl,h9⟩),Gw.out _⟩
    ·intro Lq wq xq hh;have d12:=(Ek.out _ _).mp (hh.v 12);simp only [Cb];refine Reg.go rfl ?_;unfold Reg.upon;obtain ⟨o9,k9,e9,h9⟩:=d12;rw [e9];go_simp;exact ⟨Ec.out 14 Lq wq rfl  hh.cls,(by rw [Hrgpe14.out]),Gw.out _⟩
    ·intro Lq wq xq hh;have d13:=(FA.out _ _).mp (hh.v 13);simp only [Cb];refine Reg.go rfl ?_;unfold Reg.upon;have hc:DP Lq wq:=hh.cls;rw [CX.out] at hc;have Cp:=hc.2.1 hh.un;obtain ⟨o9,k9,e9,hz⟩:=d13;have EM:=(EL.out.below Cp).1;have s0:=EM.cell 0 _ rfl;have s1:=EM.cell 1 _ rfl;have s2:=EM.cell 2 _ rfl;have s3:=EM.cell 3 _ rfl;have s4:=EM.cell 4 _ rfl;have f0:=EM.free 0;have f1:=EM.free 1;have f2:=EM.free 2;have f3:=EM.free 3;have f4:=EM.free 4;rw [Nx] at s0;have q10:=RB.store (r3:=rr) (c3:=c9) (pd3:=pp) (au3:=Pau) (o':=o9) (k':=k9) (L3:=LP) EL.out Cp (by rw [L9.out];exact hz.zone fun x hx hy=>by rcases hy with hy | hy;exact .inl hy;exact .inr ⟨hy,hx⟩);rw [L9.out] at q10;have hF:DP (Lq.setIfInBounds 15 true) (((((wq.setCell ⟨gb,0,none⟩ (.slice o9 n k9)).setCell ⟨gb,1,none⟩ (.int .i64 rr)).setCell ⟨gb,2,none⟩ (.int .i64 c9)).setCell ⟨gb,3,none⟩ (.bool pp)).setCell ⟨gb,4,none⟩ (.bool Pau)):=by
      rw [CX.out];refine ⟨hc.1.trans (aR gb _ _ _ _ _),fun e=>?_,fun _=>⟨o9,k9,q10⟩⟩;rw [Mix.one_set (by rw [hh.size];decide)] at e;exact absurd e (by decide)
     have hE:Ma 15 undef (((((wq.setCell ⟨gb,0,none⟩ (.slice o9 n k9)).setCell ⟨gb,1,none⟩ (.int .i64 rr)).setCell ⟨gb,2,none⟩ (.int .i64 c9)).setCell ⟨gb,3,none⟩ (.bool pp)).setCell ⟨gb,4,none⟩ (.bool Pau)):=by rw [Hrgpe15.out]
     have hX:J3 wq (((((wq.setCell ⟨gb,0,none⟩ (.slice o9 n k9)).setCell ⟨gb,1,none⟩ (.int .i64 rr)).setCell ⟨gb,2,none⟩ (.int .i64 c9)).setCell ⟨gb,3,none⟩ (.bool pp)).setCell ⟨gb,4,none⟩ (.bool Pau)):=by rw [HrgphX.out];exact aR _ _ _ _ _ _
     rw [e9];clear hc hz EM q10 Cp;go_simp;exact ⟨hF,hE,hX⟩
    intro xq wrgp hcrgp hvrgp;rw [CX.out] at hcrgp;simp only [Cb];clear hvrgp Cb DC Ec Gw Hrgpst Hrgpc CX HrgphX IL Fo Hw Ih Hf GK Iq Hl GP GU Hg G3 Fw Fx Ek FA Hrgpe14 Hrgpe15;obtain ⟨u9,_,OC⟩:=hcrgp;obtain ⟨o9,k9,Ik⟩:=OC (by kernel_rfl);have BM:=ab (And.intro Ik (UB.out.trans u9));clear u9 OC Ik;go_wp2
    go_roundw
    case rel=>exact ⟨i+1,⟨LP,rr,c9,pp,Pau⟩,o9,k9,by omega,by go_num,by rw [<-Co.out,QM.out],BM.out.1,BM.out.2⟩
    case measure=>simp [intOf] <;> omega
   |true =>
    rw [DG] at GA;have E4:=ab (show bT (t.getD 0 0)=true from by rw [<-Mu];exact DG);have FV:=ab t4;have HTC:=ab (i9 Ku).2.2;clear hP CM hu Pc MH t1 t2 t3 t4 ht Mu DG Jt
    go_wp2_with fail
    refine GA.out.mono ?_;rintro e wb ⟨rfl,bb⟩;have UB:=ab (HU.out.trans (Upd.ofBelow bb |>.mono fun b hb e=>absurd hb (by have:=HU.out.size;omega)));have EL:=ab (Mb.out.below bb);have LD:=ab (show ∀ w',Upd (fun b=>b=gb) wb w'->Upd (fun b=>b=gb) wv w' from fun w' h=>(Upd.ofBelow bb |>.mono fun b hb e=>absurd hb (by omega)).trans h);clear bb hcell Ku hc0;go_wp2
    go_loopw [7] (fun kv wr=>∃ (j:Nat) (P2:Pn) (o2:Option Addr) (k2:Nat),j<=tn/\kv=.int .i64 j/\P2=(t.take j).foldl (doP wd) P/\RB w Z gb gz P2.L P2.r P2.c P2.pd P2.au o2 k2 wr/\Upd (fun b=>b=gb) wb wr) (fun kv _=>tn - (intOf kv).toNat)
    case atStart=>exact ⟨0,P,o,k,Nat.zero_le _,rfl,by rw [List.take_zero];rfl,EL.out,Upd.refl _ _⟩
    case round =>
     obtain ⟨j,P2,o2,k2,hj,rfl,NU,KZ,Fq⟩:=hrel;obtain ⟨wd2,hwd2⟩:=ae (wr);subst hwd2;have Jd:PnOk wd n P2:=by rw [NU];exact PnOk.dos EY.out _ _ HPI.out
     have DU:=(I9.out wd2 (LD.out wd2 Fq)).1
     by_cases hjt:j<tn
     ·have j3:decide ((j:Int)<(tn:Int))=true:=ah (by omega);have j4:decide (j<tn)=true:=ah (by omega);have E8:(j:Int)<(tn:Int):=by omega
      have hwj2:IntKind.i64.wrap ((j:Int)+1)=(j:Int)+1:=by
       have:=FV.out;have:=KB.out;rw [IntKind.wrap_i64];omega
      obtain ⟨b2,t2,e2,hb2,PQ⟩:=HTC.out j (by rw [<-KB.out];exact hjt)
      cases e2
      obtain ⟨K,hK⟩:=ae (t.getD j 0);rw [<-hK] at PQ;have QA:=ab (show ∀ w',Upd (fun b=>b=gb) wv w'->w'.cell? ⟨bt,ot+j,none⟩=some (.int .i32 K) from fun w' h=>(World.cell?_of_block (a:=⟨bt,ot+j,none⟩) (h.block bt Px.out.2.2.1 Px.out.2.2.2)).trans PQ);have hjk:j<tk:=by omega
      have HNX2:=ab (show doP wd P2 K=(t.take (j+1)).foldl (doP wd) P from by
       rw [NU,List.take_succ_eq_append_getElem (show j<t.length from by rw [<-KB.out];exact hjt),List.foldl_append,hK]
       simp [List.getD,List.getElem?_eq_getElem (show j<t.length from by rw [<-KB.out];exact hjt)])
      obtain ⟨n1,n2,n3,n4,n5⟩:=Jd.nat EY.out;obtain ⟨LP,Gq⟩:=ae ((doP wd P2 K).L);obtain ⟨rr,DO⟩:=ae ((doP wd P2 K).r);obtain ⟨c9,hcc⟩:=ae ((doP wd P2 K).c);obtain ⟨pp,Cj⟩:=ae ((doP wd P2 K).pd);obtain ⟨sk,hsk⟩:=ae (bT K);have L9:=ab (show LP.length=n from by rw [Gq];exact (Jd.do_ EY.out K).1);have QM:=ab (show doP wd P2 K=⟨LP,rr,c9,pp,P2.au⟩ from by rw [Gq,DO,hcc,Cj];rfl);have HDO:=ab (show ∀ (Zq:an) (w':World),HeldE lineE Zq w' (.slice o2 n k2) P2.L->(∀ b,Zq b->b<w'.heap.size)->Calls Tryz.prog 98 #[.agg #[.slice o2 n k2,.int .i64 P2.r,.int .i64 P2.c,.bool P2.pd,.bool P2.au],.int .i32 K] w' (fun e w2=>∃ v',e=.returned (.tuple #[.agg #[v',.int .i64 rr,.int .i64 c9,.bool pp,.bool P2.au],.bool sk])/\HeldE lineE (fun b=>Zq b\/(w'.heap.size<=b/\b<w2.heap.size)) w2 v' LP/\Below w'.heap.size w' w2) from fun Zq w' h1 h2=>by
       rw [Gq,DO,hcc,Cj,hsk];exact zC Zq (.slice o2 n k2) P2.L P2.r P2.c P2.pd P2.au K w' h1 h2 wd (Jd.even EY.out) _ _ n1 n2 n4 n5)
      have MB:P2.L.length=n:=Jd.1;have Ij:=ab KZ;have UB2:=ab Fq;obtain ⟨⟨PL,Pr',Pc',Ppd,Pau⟩,K6⟩ : ∃ q,q=P2:=⟨_,rfl⟩;subst K6
      dsimp only at *
      clear NU KZ Fq Jd hK PQ n1 n2 n3 n4 n5 Gq DO hcc Cj hsk
      go_upto_region 10 with (fail)
      clear DU;obtain ⟨D9,F9⟩ : ∃ CC:Array Bool->World->Prop,CC=fun L8 w'=>Upd (fun b=>b=gb) wd2 w'/\(Mix.one L8 12=0->Below wd2.heap.size wd2 w')/\(Mix.one L8 12=1->∃ o9 k9,RB w Z gb gz LP rr c9 pp Pau o9 k9 w'):=⟨_,rfl⟩
      obtain ⟨Kp,Ey⟩ : ∃ XX:World->World->Prop,XX=fun x y=>Upd (fun b=>b=gb) x y:=⟨_,rfl⟩
      obtain ⟨Mz,Hrgqst,G9,Hi,II,Hc,GT,Ip,GZ,GR,Hs,FP,FT,Hrgqe11,Hrgqe12,_,_,_⟩:=Reg.e16 Kp
       (fun xx _=>xx=.agg #[.slice o2 n k2,.int .i64 Pr',.int .i64 Pc',.bool Ppd,.bool Pau])
       (fun xx _=>xx=.slice (some ⟨bc,oc,none⟩) m cc)
       (fun xx _=>xx=.int .i64 i)
       (fun xx _=>xx=.pointer (some ⟨bc,oc+i,none⟩))
       (fun xx _=>xx=.slice (some ⟨bt,ot,none⟩) tn tk)
       (fun xx _=>xx=.int .i64 j)
       (fun xx _=>xx=.pointer (some ⟨bt,ot+j,none⟩))
       (fun xx _=>xx=.int .i32 K)
       (fun x w'=>∃ o9 k9,x=.tuple #[.agg #[.slice o9 n k9,.int .i64 rr,.int .i64 c9,.bool pp,.bool Pau],.bool sk]/\HeldE lineE (fun b=>(((Z b\/w.heap.size<=b)/\b≠gb/\b≠gz)/\b<wd2.heap.size)\/wd2.heap.size<=b) w' (.slice o9 n k9) LP)
       (fun x w'=>∃ o9 k9,x=.tuple #[.agg #[.slice o9 n k9,.int .i64 rr,.int .i64 c9,.bool pp,.bool Pau],.bool sk]/\HeldE lineE (fun b=>(((Z b\/w.heap.size<=b)/\b≠gb/\b≠gz)/\b<wd2.heap.size)\/wd2.heap.size<=b) w' (.slice o9 n k9) LP)
       (fun x w'=>∃ o9 k9,x=.agg #[.slice o9 n k9,.int .i64 rr,.int .i64 c9,.bool pp,.bool Pau]/\HeldE lineE (fun b=>(((Z b\/w.heap.size<=b)/\b≠gb/\b≠gz)/\b<wd2.heap.size)\/wd2.heap.size<=b) w' (.slice o9 n k9) LP)
       (fun xx _=>xx=.bool sk)
       (fun xx _=>xx=undef)
       (fun _ _=>True) (fun _ _=>True) (fun _ _=>True)
       (s8:=fun x w w1 hx h=>by rw [Ey] at hx;(obtain ⟨o9,k9,e9,h9⟩:=h;exact ⟨o9,k9,e9,h9.upd hx (fun b hz e=>by have h8:=Ij.out.1.lt;rcases hz with hz | hz;exact hz.1.2.1 e;omega)⟩))
       (s9:=fun x w w1 hx h=>by rw [Ey] at hx;(obtain ⟨o9,k9,e9,h9⟩:=h;exact ⟨o9,k9,e9,h9.upd hx (fun b hz e=>by have h8:=Ij.out.1.lt;rcases hz with hz | hz;exact hz.1.2.1 e;omega)⟩))
       (s10:=fun x w w1 hx h=>by rw [Ey] at hx;(obtain ⟨o9,k9,e9,h9⟩:=h;exact ⟨o9,k9,e9,h9.upd hx (fun b hz e=>by have h8:=Ij.out.1.lt;rcases hz with hz | hz;exact hz.1.2.1 e;omega)⟩))
      have Fj:Hid (∀ i L w,(i == 12)=false ->  D9 L w->D9 (L.setIfInBounds i true) w):=ab (by
       intro i L w q h;simp only [Bool.or_eq_false_iff,beq_eq_false_iff_ne] at q;rw [F9] at h ⊢;simp only [Mix.one_ne q];exact h)
      have Hrgqb:Hid (∀ L w w1,D9 L w->Below w.heap.size w w1->D9 L w1):=ab (by
       intro L w w1 h hb;rw [F9] at h ⊢
       (obtain ⟨q1,q2,q4⟩:=h;exact ⟨q1.trans (Upd.ofBelow hb |>.mono fun b hb e=>absurd hb (by have:=q1.size;omega)),fun e=>(q2 e).trans (hb.mono (q2 e).size),fun e=>by obtain ⟨o9,k9,h1⟩:=q4 e;exact ⟨o9,k9,h1.below hb⟩⟩))
      have Gr:=ab (show ∀ w,Kp w w from fun w=>by rw [Ey];exact Upd.refl _ _);have Hrgqxb:=ab (show ∀ w w1,Below w.heap.size w w1->Kp w w1 from fun w w1 hb=>by rw [Ey];exact Upd.ofBelow hb |>.mono fun b h e=>absurd h (by omega));have Hrgqc:=ab (show D9 (Array.replicate 13 false) wd2.drew from by rw [F9];exact ⟨(Upd.refl _ _).drew,fun _=>(Below.refl _ _).drew,fun e=>absurd e (by decide)⟩);have D1:=ab (fun (i:Nat) L w v q (h:D9 L w) (e:Mz i v w)=>Reg.hk (Fj.out i L w q h) e (Gr.out w));have Ds:=ab F9;have HrgqhX:=ab Ey;clear F9 Ey
      go_wp2_with fail
      refine Reg.regionF Mz D9 Kp Hrgqst.out (by kernel_rfl) (by kernel_rfl) (by kernel_rfl) Hrgqc.out (fun Frgq Ck=>?_);simp only [Reg.frame,Reg.dsts,List.map_cons,List.map_nil,Mix.put_lit,Reg.put_none,List.set_cons_succ,List.set_cons_zero,Nat.zero_add,Nat.reduceAdd] at Ck;refine ⟨⟨?_,?_,?_,?_,?_,?_,?_,?_,?_,?_,?_,?_,?_,trivial⟩,?_⟩
      ·intro Lq wq xq hh;simp only [Ck];refine Reg.go rfl ?_;have hc:D9 Lq wq:=hh.cls;rw [Ds.out] at hc;have hq:=(Ij.out.below (hc.2.1 (Mix.one_un (hh.notYet 12 (by kernel_rfl))))).1;rw [MB] at hq;have q0:=hq.cell 0 _ rfl;have q1:=hq.cell 1 _ rfl;have q2:=hq.cell 2 _ rfl;have q3:=hq.cell 3 _ rfl;have q4:=hq.cell 4 _ rfl;clear hc;have HK:=D1.out 0 _ _ _ rfl hh.cls ((G9.out _ _).mpr rfl);go_simp;exact HK.out
      ·intro Lq wq xq hh;simp only [Ck];refine Reg.go rfl ?_;have HK:=D1.out 1 _ _ _ rfl hh.cls ((Hi.out _ _).mpr rfl);go_simp;exact HK.out
      ·intro Lq wq xq hh;simp only [Ck];refine Reg.go rfl ?_;have HK:=D1.out 2 _ _ _ rfl hh.cls ((II.out _ _).mpr rfl);go_simp;exact HK.out
      ·intro Lq wq xq hh;simp only [Ck,(Hi.out _ _).mp (hh.v 1),(II.out _ _).mp (hh.v 2)];refine Reg.go rfl ?_;have HK:=D1.out 3 _ _ _ rfl hh.cls ((Hc.out _ _).mpr rfl);go_simp;exact HK.out
      ·intro Lq wq xq hh;simp only [Ck,(Hc.out _ _).mp (hh.v 3)];refine Reg.go rfl ?_;have hc:D9 Lq wq:=hh.cls;rw [Ds.out] at hc;have q0:=(I9.out wq (LD.out wq (UB2.out.trans hc.1))).1;clear hc;have HK:=D1.out 4 _ _ _ rfl hh.cls ((GT.out _ _).mpr rfl);go_simp;exact HK.out
      ·intro Lq wq xq hh;simp only [Ck];refine Reg.go rfl ?_;have HK:=D1.out 5 _ _ _ rfl hh.cls ((Ip.out _ _).mpr rfl);go_simp;exact HK.out
      ·intro Lq wq xq hh;simp only [Ck,(GT.out _ _).mp (hh.v 4),(Ip.out _ _).mp (hh.v 5)];refine Reg.go rfl ?_;have HK:=D1.out 6 _ _ _ rfl hh.cls ((GZ.out _ _).mpr rfl);go_simp;exact HK.out
      ·intro Lq wq xq hh;simp only [Ck,(GZ.out _ _).mp (hh.v 6)];refine Reg.go rfl ?_;have hc:D9 Lq wq:=hh.cls;rw [Ds.out] at hc;have q0:=QA.out wq (LD.out wq (UB2.out.trans hc.1));clear hc;have HK:=D1.out 7 _ _ _ rfl hh.cls ((GR.out _ _).mpr rfl);go_simp;exact HK.out
      ·intro Lq wq xq hh;simp only [Ck,(G9.out _ _).mp (hh.v 0),(GR.out _ _).mp (hh.v 7)];refine Reg.go rfl ?_;unfold Reg.upon;have hc:D9 Lq wq:=hh.cls;rw [Ds.out] at hc;have Cp:=hc.2.1 (Mix.one_un (hh.notYet 12 (by kernel_rfl)));have JH:=Ij.out.arg.below Cp;rw [MB] at JH;have hput:=HDO.out (fun b=>((((Z b\/w.heap.size<=b)/\b≠gb/\b≠gz)/\b<wd2.heap.size))/\b<wq.heap.size) wq (JH.zone fun b hb hz=>⟨hz,hb⟩) (fun b h=>h.2);clear hc JH;go_simp;refine hput.mono ?_;rintro e w9 ⟨v9,rfl,h9,b9⟩;obtain ⟨o9,k9,ev9⟩:=h9.len;rw [L9.out] at ev9;subst ev9;refine ⟨_,rfl,Fj.out 8 Lq w9 rfl  (Hrgqb.out Lq wq w9 hh.cls b9),?_,Hrgqxb.out wq w9 b9⟩;rw [Hs.out];refine ⟨o9,k9,rfl,h9.zone fun b _ hz=>?_⟩
       rcases hz with hz | hz
       ·exact .inl hz.1
       ·exact .inr (Nat.le_trans Cp.size hz.1)
      ·intro Lq wq xq hh;have d8:=(Hs.out _ _).mp (hh.v 8);simp only [Ck];refine Reg.go rfl ?_;unfold Reg.upon;go_simp;exact ⟨Fj.out 9 Lq wq rfl  hh.cls,(by rw [FP.out];exact d8),Gr.out _⟩
      ·intro Lq wq xq hh;have d9:=(FP.out _ _).mp (hh.v 9);simp only [Ck];refine Reg.go rfl ?_;unfold Reg.upon;obtain ⟨o9,k9,e9,h9⟩:=d9;rw [e9];go_simp;exact ⟨Fj.out 10 Lq wq rfl  hh.cls,(by rw [FT.out];exact ⟨o9,k9,rfl,h9⟩),Gr.out _⟩
      ·intro Lq wq xq hh;have d9:=(FP.out _ _).mp (hh.v 9);simp only [Ck];refine Reg.go rfl ?_;unfold Reg.upon;obtain ⟨o9,k9,e9,h9⟩:=d9;rw [e9];go_simp;exact ⟨Fj.out 11 Lq wq rfl  hh.cls,(by rw [Hrgqe11.out]),Gr.out _⟩
      ·intro Lq wq xq hh;have d10:=(FT.out _ _).mp (hh.v 10);simp only [Ck];refine Reg.go rfl ?_;unfold Reg.upon;have hc:D9 Lq wq:=hh.cls;rw [Ds.out] at hc;have Cp:=hc.2.1 hh.un;obtain ⟨o9,k9,e9,hz⟩:=d10;have EM:=(Ij.out.below Cp).1;have s0:=EM.cell 0 _ rfl;have s1:=EM.cell 1 _ rfl;have s2:=EM.cell 2 _ rfl;have s3:=EM.cell 3 _ rfl;have s4:=EM.cell 4 _ rfl;have f0:=EM.free 0;have f1:=EM.free 1;have f2:=EM.free 2;have f3:=EM.free 3;have f4:=EM.free 4;rw [MB] at s0;have q10:=RB.store (r3:=rr) (c3:=c9) (pd3:=pp) (au3:=Pau) (o':=o9) (k':=k9) (L3:=LP) Ij.out Cp (by rw [L9.out];exact hz.zone fun x hx hy=>by rcases hy with hy | hy;exact .inl hy;exact .inr ⟨hy,hx⟩);rw [L9.out] at q10;have hF:D9 (Lq.setIfInBounds 12 true) (((((wq.setCell ⟨gb,0,none⟩ (.slice o9 n k9)).setCell ⟨gb,1,none⟩ (.int .i64 rr)).setCell ⟨gb,2,none⟩ (.int .i64 c9)).setCell ⟨gb,3,none⟩ (.bool pp)).setCell ⟨gb,4,none⟩ (.bool Pau)):=by
        rw [Ds.out];refine ⟨hc.1.trans (aR gb _ _ _ _ _),fun e=>?_,fun _=>⟨o9,k9,q10⟩⟩;rw [Mix.one_set (by rw [hh.size];decide)] at e;exact absurd e (by decide)
       have hE:Mz 12 undef (((((wq.setCell ⟨gb,0,none⟩ (.slice o9 n k9)).setCell ⟨gb,1,none⟩ (.int .i64 rr)).setCell ⟨gb,2,none⟩ (.int .i64 c9)).setCell ⟨gb,3,none⟩ (.bool pp)).setCell ⟨gb,4,none⟩ (.bool Pau)):=by rw [Hrgqe12.out]
       have hX:Kp wq (((((wq.setCell ⟨gb,0,none⟩ (.slice o9 n k9)).setCell ⟨gb,1,none⟩ (.int .i64 rr)).setCell ⟨gb,2,none⟩ (.int .i64 c9)).setCell ⟨gb,3,none⟩ (.bool pp)).setCell ⟨gb,4,none⟩ (.bool Pau)):=by rw [HrgqhX.out];exact aR _ _ _ _ _ _
       rw [e9];clear hc hz EM q10 Cp;go_simp;exact ⟨hF,hE,hX⟩
      intro xq wrgq hcrgq hvrgq;rw [Ds.out] at hcrgq;simp only [Ck];clear hvrgq Ck D1 Fj Gr Hrgqst Hrgqc Ds HrgqhX Hrgqb Hrgqxb G9 Hi II Hc GT Ip GZ GR Hs FP FT Hrgqe11 Hrgqe12;obtain ⟨u9,_,GX⟩:=hcrgq;obtain ⟨o9,k9,Ik⟩:=GX (by kernel_rfl);have BM:=ab (And.intro Ik (UB2.out.trans u9));clear u9 GX Ik;go_wp2
      go_roundw
      case rel=>exact ⟨j+1,⟨LP,rr,c9,pp,Pau⟩,o9,k9,by omega,by go_num,by rw [<-HNX2.out,QM.out],BM.out.1,BM.out.2⟩
      case measure=>simp [intOf] <;> omega
     ·obtain rfl:j=tn:=by omega
      have j3:decide ((j:Int)<(j:Int))=false:=ai (by omega);have BM:=ab (And.intro KZ (UB.out.trans Fq));have Oa:=ab (show P2=bP wd p0 (cs.take (i+1)) from by
       rw [<-Co.out,NU,KB.out,List.take_length];unfold putC;rw [if_pos E4.out])
      clear NU KZ Fq Jd;go_wp2
      go_roundw
      case rel=>exact ⟨i+1,P2,o2,k2,by omega,by go_num,Oa.out,BM.out.1,BM.out.2⟩
      case measure=>simp [intOf] <;> omega
  ·obtain rfl:i=m:=by omega
   have j1:decide ((i:Int)<(i:Int))=false:=ai (by omega);have hPe:P=bP wd p0 (bJ xs):=by rw [hP,HM.out,List.take_length,Oc.out]
   have HPE:=ab hPe;have Nx:P.L.length=n:=LN.1;have Mb:=ab CM;obtain ⟨⟨PL,Pr',Pc',Ppd,Pau⟩,K6⟩ : ∃ q,q=P:=⟨_,rfl⟩;subst K6
   dsimp only at *
   have q0:=CM.1.cell 0 _ rfl;rw [Nx] at q0;have q1:=CM.1.cell 1 _ rfl;have q2:=CM.1.cell 2 _ rfl;have q3:=CM.1.cell 3 _ rfl;have q4:=CM.1.cell 4 _ rfl;have s0:=CM.2.2.1.cell 0 _ rfl;have s1:=CM.2.2.1.cell 1 _ rfl;have s2:=CM.2.2.1.cell 2 _ rfl;have s3:=CM.2.2.1.cell 3 _ rfl;have s4:=CM.2.2.1.cell 4 _ rfl;have f0:=CM.2.2.1.free 0;have f1:=CM.2.2.1.free 1;have f2:=CM.2.2.1.free 2;have f3:=CM.2.2.1.free 3;have f4:=CM.2.2.1.free 4;have Kv:=CM.fin;rw [Nx] at Kv;have HF:=ab Kv;have HH:=ab (cJ CM.2.2.1 (.slice o n k) (.int .i64 Pr') (.int .i64 Pc') (.bool Ppd) (.bool Pau));obtain ⟨W5,CK⟩:=ae ((((((wv.setCell ⟨gz,0,none⟩ (.slice o n k)).setCell ⟨gz,1,none⟩ (.int .i64 Pr')).setCell ⟨gz,2,none⟩ (.int .i64 Pc')).setCell ⟨gz,3,none⟩ (.bool Ppd)).setCell ⟨gz,4,none⟩ (.bool Pau)));have DW:=ab CK;rw [<-CK] at HF HH;clear hP CM hu LN hPe Kv CK;go_wp2;rw [<-DW.out];have k0:=HH.out.cell 0 _ rfl;have k1:=HH.out.cell 1 _ rfl;have k2:=HH.out.cell 2 _ rfl;have k3:=HH.out.cell 3 _ rfl;have k4:=HH.out.cell 4 _ rfl;exact bodyPost_ret (v:=.agg #[.slice o n k,.int .i64 Pr',.int .i64 Pc',.bool Ppd,.bool Pau]) (by simp [results,Tryz.results42,go_sem,k0,k1,k2,k3,k4]) rfl ⟨_,by rw [<-HPE.out],by rw [<-HPE.out];exact HF.out.1,HF.out.2⟩
end Go.Proofs.YtoeggiplcaegoaaGreatDoor
