import Derived.Test.YtoeggiplcaegoaaGreatDoorZ0
import Derived.Test.YtoeggiplcaegoaaGreatDoorMg11
import Derived.Test.YtoeggiplcaegoaaGreatDoorMg1
import Derived.Test.YtoeggiplcaegoaaGreatDoorCards
import Derived.Test.YtoeggiplcaegoaaGreatDoorTie
import Derived.ProofKit
import Derived.Lib.MinMax
import Derived.Deep.CutBlock
set_option maxRecDepth 100000
set_option linter.unusedVariables false
set_option linter.unusedSimpArgs false
set_option maxHeartbeats 16000000
namespace Go.Proofs.YtoeggiplcaegoaaGreatDoor.lawFeedPlays
open Go.ChangeShapes Go.WideShapes Go.ChangeAt Go.RowKit
abbrev Act3:=Int × List Int × Int
def actE:Elem Act3:=prE (aE .i64) (prE (slE (aE .u8)) (aE .i32))
abbrev za:Act3:=(0,[],0)
theorem acts_at{Z:an}{w:World}{ao:Option Addr}{n cap:Nat}{L:List Act3}(h:HeldE actE Z w (.slice ao n cap) L):n=L.length/\n<=cap/\∀ i,i<L.length->∃ b off tv,ao=some ⟨b,off,none⟩/\b<w.heap.size /\
  w.cell? ⟨b,off+i * 3,none⟩=some (.int .i64 (L.getD i za).1)/\w.cell? ⟨b,off+i * 3+1,none⟩=some tv/\w.cell? ⟨b,off+i * 3+2,none⟩=some (.int .i32 (L.getD i za).2.2)/\HeldE (aE .u8) Z w tv (L.getD i za).2.1:=by
 obtain ⟨h1,h2,h3⟩:=h.spots;refine ⟨h1,h2,fun i hi=>?_⟩;obtain ⟨b,off,rfl,hb,hz,C,hC,hr⟩:=h3 i hi;obtain ⟨C1,C2,rfl,rfl,C3,C4,rfl,⟨tv,rfl,ht⟩,rfl⟩:=hr;exact ⟨b,off,tv,rfl,hb,hC 0 (by decide),hC 1 (by decide),hC 2 (by decide),ht⟩
theorem in_of{L:List Int}(h:∀ y ∈ L,0<=y/\y<=255):inBytes L:=fun i hi=>h _ (by rw [List.getD,List.getElem?_eq_getElem hi];exact List.getElem_mem hi)
theorem qbox_new{Xo:an}{w w1:World}{B gp gg gr wd gf:Nat}{R:List Rw}{p:Pn}{v:Value}(hF:FAt Xo w B gp gg gr wd gf R p [] st0 none)(hb:Below w.heap.size w w1)(hv:HeldE lineE (fun x=>w.heap.size+1<=x) w1 v p.L) :
  QBox (w1.alloc (.cells [v,.int .i64 p.r,.int .i64 p.c,.bool p.pd,.bool p.au,.slice none 0 0,.slice none 0 0,.int .i64 0].toArray 66)) gp gr gf w1.heap.size R none p [] [] v (.slice none 0 0) (.slice none 0 0):=by
 have hn:=Has.new w1 [v,.int .i64 p.r,.int .i64 p.c,.bool p.pd,.bool p.au,.slice none 0 0,.slice none 0 0,.int .i64 0] 66;have Ca:=zI w1 (.cells [v,.int .i64 p.r,.int .i64 p.c,.bool p.pd,.bool p.au,.slice none 0 0,.slice none 0 0,.int .i64 0].toArray 66);refine ⟨hn,?_,HeldE.nil _ _ _,HeldE.nil _ _ _⟩;have h2:=(hv.zone (Y:=fun x=>w.heap.size+1<=x/\x<w1.heap.size) fun x hx hz=>⟨hz,hx⟩).below Ca;exact h2.zone fun x hx hz=>⟨iX hF (by omega) hx,by omega⟩
theorem open_short{G:List Int}(h:G.length<=1000000):(eI G).length<=1000000:=by
 unfold eI
 split
 ·unfold eB clN;rw [List.length_map,List.length_take];omega
 ·simp
theorem walkH(W:World)(a b:Int)(va:Value)(A:List Act3)(Z:an)(hb:HeldE actE Z W va A)(Bq:∀ x ∈ A,∀ y ∈ x.2.1,0<=y/\y<=255):Calls Tryz.prog 5 #[.int .i64 a,.int .i64 b,va] W (Yes W):=by
 obtain ⟨ao,ca,rfl⟩:=hb.len;have LG:=hb.max;obtain ⟨_,Bg,hc⟩:=acts_at hb;obtain ⟨m,hm⟩:=ae (A.length);have IJ:=ab (show ∀ i,i<m->inBytes (A.getD i za).2.1 from fun i hi=>in_of (Bq _ (by rw [hm] at hi;rw [List.getD,List.getElem?_eq_getElem hi];exact List.getElem_mem hi)));rw [<-hm] at hc LG Bg ⊢;have HC:=ab hc;clear hb hc hm Bq
 by_cases h2:40<m
 ·have hd60:decide ((40:Int)<m)=true:=ah (by omega)
  go_enter Tryz.func5,Tryz.ntmps5
  go_wp2_with fail
  refine (gG _).mono ?_;rintro e w1 ⟨rfl,b1⟩
  go_wp2_with fail
  refine (gG _).mono ?_;rintro e w2 ⟨rfl,b2⟩;have B:=b1.trans (b2.mono b1.size);go_wp2;go_ret;exact ⟨af,B⟩
 have hd60:decide ((40:Int)<m)=false:=ai (by omega);obtain ⟨y,hy⟩:=ae (IntKind.u64.wrap a);have CF:0<=y/\y<=18446744073709551615:=by rw [hy,IntKind.wrap_u64];omega
 obtain ⟨c,hc⟩ : ∃ c:Nat,y % 9=(c:Int):=⟨(y % 9).toNat,by omega⟩;have K3:c<9:=by omega
 have hy':IntKind.u64.wrap a=y:=hy.symm;have Jf:y.tmod 9=(c:Int):=by rw [Int.tmod_eq_emod_of_nonneg CF.1];exact hc
 have hwc:IntKind.i64.wrap (c:Int)=(c:Int):=by rw [IntKind.wrap_i64];omega
 obtain ⟨wd,hwd⟩ : ∃ wd:Nat,IntKind.i64.wrap (1+(c:Int))=(wd:Int)/\1<=wd/\wd<=9:=⟨1+c,by rw [IntKind.wrap_i64];omega,by omega,by omega⟩;obtain ⟨Oz,Cd,NH⟩:=hwd;clear hy CF hc K3;obtain ⟨y2,hy⟩:=ae (IntKind.u64.wrap b);have CF:0<=y2/\y2<=18446744073709551615:=by rw [hy,IntKind.wrap_u64];omega
 obtain ⟨d,hc⟩ : ∃ d:Nat,y2 % 5=(d:Int):=⟨(y2 % 5).toNat,by omega⟩;have K3:d<5:=by omega
 have hy2':IntKind.u64.wrap b=y2:=hy.symm;have hct2:y2.tmod 5=(d:Int):=by rw [Int.tmod_eq_emod_of_nonneg CF.1];exact hc
 have hwc2:IntKind.i64.wrap (d:Int)=(d:Int):=by rw [IntKind.wrap_i64];omega
 obtain ⟨ht,MO⟩ : ∃ ht:Nat,IntKind.i64.wrap (1+(d:Int))=(ht:Int)/\1<=ht/\ht<=5:=⟨1+d,by rw [IntKind.wrap_i64];omega,by omega,by omega⟩;obtain ⟨hww2,DX,hh5⟩:=MO;clear hy CF hc K3
 go_enter Tryz.func5,Tryz.ntmps5
 go_wp2_with fail
 refine (gG _).mono ?_;rintro e w1 ⟨rfl,b1⟩;have FE:=pw (wd:Int) (ht:Int) w1;rw [show da (wd:Int)=wd from by unfold da;omega,show da (ht:Int)=ht from by unfold da;omega] at FE
 go_wp2_with fail
 refine FE.mono ?_;rintro e w2 ⟨gp,gg,gr,R0,rfl,Kt,b2⟩;obtain ⟨P0,Kq⟩ : ∃ P0:Pn,P0=⟨List.replicate ht (List.replicate wd zc,false),0,0,false,true⟩:=⟨_,rfl⟩;have hfn:=oB (p:=P0) (by rw [Kq];exact Kt)
 go_wp2_with fail
 refine hfn.mono ?_;rintro e w3 ⟨gf,rfl,OM,hf3,b3⟩;have J4:=tS wd ht (by omega) (by omega) w3
 go_wp2_with fail
 refine J4.mono ?_;rintro e w4 ⟨v4,rfl,hv4,b4⟩;have hv4:HeldE lineE (fun x=>w3.heap.size+1<=x) w4 v4 P0.L:=by rw [Kq];exact hv4
 obtain ⟨o4,k4,ev⟩:=hv4.len;obtain ⟨n0,Du⟩:=ae (P0.L.length);rw [<-Du] at ev;subst ev;have NJ:=qbox_new hf3 b4 hv4;have DM:=ab (show eJ wd ht from ⟨by omega,by omega,by omega,by omega⟩);have HPN0:=ab (show PnOk wd ht P0 from by
  rw [Kq];refine ⟨by rw [List.length_replicate],fun i hi=>?_⟩;rw [List.length_replicate] at hi
  simp [List.getD,List.getElem?_replicate,hi])
 rw [show P0.r=0 from by rw [Kq],show P0.c=0 from by rw [Kq],show P0.pd=false from by rw [Kq],show P0.au=true from by rw [Kq]] at NJ;obtain ⟨gb,hgb⟩:=ae (w4.heap.size);obtain ⟨BB,Ou⟩:=ae (w1.heap.size);obtain ⟨W5,AK⟩:=ae (w4.alloc (.cells [Value.slice o4 n0 k4,.int .i64 0,.int .i64 0,.bool false,.bool true,.slice none 0 0,.slice none 0 0,.int .i64 0].toArray 66));have Ca:Below w4.heap.size w4 W5:=by rw [AK];exact zI w4 _
 rw [<-AK,<-hgb] at NJ;have Pu:=ab NJ;have MJ:=ab (show W.heap.size<=BB from by rw [Ou];exact b1.size);have NI:=ab (show FOn (fun _=>True) BB W5 gp gg gr wd gf R0 P0 [] st0 none from by
  rw [Ou];exact ⟨(hf3.below b4).below Ca,Nat.le_trans b2.size OM,(fun g e=>by cases e),Nat.le_trans b2.size (Nat.le_trans b3.size (Nat.le_trans b4.size Ca.size))⟩)
 have KO:=ab (((b1.trans (b2.mono b1.size)).trans (b3.mono (Nat.le_trans b1.size b2.size))).trans ((b4.mono (Nat.le_trans b1.size (Nat.le_trans b2.size b3.size))).trans (Ca.mono (Nat.le_trans b1.size (Nat.le_trans b2.size (Nat.le_trans b3.size b4.size))))));have HBG:=ab (show BB<=gb from by rw [Ou,hgb];exact Nat.le_trans b2.size (Nat.le_trans b3.size b4.size));have CI:=ab (show W.heap.size<=gb from Nat.le_trans MJ.out HBG.out);have NK:=ab (show ∀ x,x<W.heap.size->¬ BB<=x from fun x hx e=>by have:=MJ.out;omega);have hW5':W5=w4.alloc (.cells #[Value.slice o4 n0 k4,.int .i64 0,.int .i64 0,.bool false,.bool true,.slice none 0 0,.slice none 0 0,.int .i64 0] 66):=AK;have I9:=ab Du;have ON:=ab (show P0.r=0/\P0.c=0/\P0.pd=false/\P0.au=true from by rw [Kq];exact ⟨rfl,rfl,rfl,rfl⟩);clear NJ Ca AK Ou hv4 hf3 OM Kt b1 b2 b3 b4 FE hfn J4 Kq Du
 go_upto_region 7 with (fail)
 rw [<-hW5',<-hgb];clear hW5' hgb;go_wp2
 go_loopw [10] (fun iv wr=>∃ (i:Nat) (R:List Rw) (p:Pn) (G bs:List Int) (op:Option Nat) (v gv bv:Value),i<=m/\iv=.int .i64 i/\FOn (fun _=>True) BB wr gp gg gr wd gf R p G (aF st0 bs) op/\QBox wr gp gr gf gb R op p G bs v gv bv/\Below W.heap.size W wr/\PnOk wd ht p/\AllV G/\inBytes bs/\G.length<=121 * i/\bs.length<=60 * i) (fun iv _=>m - (intOf iv).toNat)
 case atStart=>exact ⟨0,R0,P0,[],[],none,_,_,_,Nat.zero_le _,rfl,NI.out,Pu.out,KO.out,HPN0.out,AllV.nil,xb,Nat.zero_le _,Nat.zero_le _⟩
 case round =>
  obtain ⟨i,R,p,G,bs,op,v,gv,bv,hi,rfl,hf,hq,zN,FE,hG,OS,Dn,hl2⟩:=hrel;obtain ⟨wq,DO⟩:=ae (wr);subst DO;have HB:=ab zN
  by_cases hlt:i<m
  ·obtain ⟨vo,vk,rfl⟩:=hq.2.1.len;obtain ⟨go1,gk,rfl⟩:=hq.2.2.1.len;obtain ⟨bo,bk,rfl⟩:=hq.2.2.2.len;obtain ⟨nL,CJ⟩:=ae (p.L.length);obtain ⟨nG,CG⟩:=ae (G.length);obtain ⟨nB,CK⟩:=ae (bs.length);rw [<-CJ,<-CG,<-CK] at hq;have HF:=ab hf;have HQ:=ab hq;have Je:=ab FE;have Ol:=ab hG;have KT:=ab OS;have HL:=ab (show G.length<=121 * 40/\bs.length<=60 * 40/\G.length<=121 * i/\bs.length<=60 * i from ⟨by omega,by omega,Dn,hl2⟩);clear hf hq FE hG OS Dn hl2 CJ CG CK Pu NI KO HPN0 I9 ON;obtain ⟨b,off,tv,rfl,BZ,c0,c1,c2,DA⟩:=HC.out i hlt;obtain ⟨⟨K,T,X⟩,hS⟩ : ∃ y,y=A.getD i za:=⟨_,rfl⟩;have Bb:=IJ.out i hlt;rw [<-hS] at c0 c2 DA Bb;simp only at c0 c2 DA Bb;obtain ⟨ta,tc,rfl⟩:=DA.len;obtain ⟨tn,EN⟩:=ae (T.length);rw [<-EN] at c1 DA;have On:=ab Bb;have EJ:=ab c1;have I5:=ab c2;have Kx:=ab BZ;have bw:=zN;have hbs0:b<wq.heap.size:=Nat.lt_of_lt_of_le BZ bw.size;have c0:=(bw.cell (p:=⟨b,off+i * 3,none⟩) BZ).trans c0;have c1:=(bw.cell (p:=⟨b,off+i * 3+1,none⟩) BZ).trans c1;have c2:=(bw.cell (p:=⟨b,off+i * 3+2,none⟩) BZ).trans c2;have HT:=ab ((DA.zone (Y:=fun x=>x<W.heap.size) (fun x hx _=>hx)).below bw);have HTN0:=ab EN;clear bw DA hS BZ EN Bb zN
   by_cases h60:60<tn
   ·have hd61:decide ((60:Int)<tn)=true:=ah (by omega);go_wp2;go_ret;exact ⟨af,HB.out⟩
   have hd61:decide ((60:Int)<tn)=false:=ai (by omega);have I6:=ab (show T.length<=60 from by have:=HTN0.out;omega);clear HTN0
   go_upto_block 2 with fail
   go_cut [] from 55 to 97 (fun wx=>∃ (R1:List Rw) (p1:Pn) (G1 B1:List Int) (op1:Option Nat) (v gv bv:Value),FOn (fun _=>True) BB wx gp gg gr wd gf R1 p1 G1 (aF st0 B1) op1/\QBox wx gp gr gf gb R1 op1 p1 G1 B1 v gv bv/\Below W.heap.size W wx/\(PnOk wd ht p1/\AllV G1/\inBytes B1/\G1.length<=1000000/\B1.length<=1000000)/\G1.length<=121 * (i+1)/\B1.length<=60 * (i+1))
   case first =>
    by_cases DW:K=0
    ·
     have k0:(K == 0)=true:=by rw [beq_iff_eq];omega
     have DQ:=ab (fV BB gp gg gr wd gf R p G (aF st0 bs) op (.slice ta tn tc) T wq HF.out.1 (xd KT.out) (HT.out.zone (fun x _ hx e=>NK.out x hx (rE HF.out x e))) On.out)
     go_wp2_with fail
     refine DQ.out.mono ?_;rintro e w1 ⟨rfl,kg⟩;obtain ⟨R1,op1,f1,u1,b1,rf1,AA⟩:=HF.out.go kg;have q1:=HQ.out.go HF.out.1 u1 rf1 AA;have bw1:=HB.out.trans (b1.mono MJ.out);have Lp:=HT.out.upd u1 (fun x hx e=>NK.out x hx (rE HF.out x e));have hc1:=Lp.zone (Y:=fun x=>¬ FW w1 gp gr gf R1 op1 x/\x≠gb) (fun x _ hx=>⟨fun e=>NK.out x hx (rE f1 x e),fun e=>NK.out x hx (by rw [e];exact HBG.out)⟩);have Cc:=fun w' hb=>q1.bytes (w1:=w') hb hc1 (by have:=HL.out.1;omega) (by have:=HL.out.2;have:=I6.out;omega) KT.out On.out
     obtain ⟨p1,DJ⟩:=ae (p);obtain ⟨G1,Ep⟩:=ae (G++aA (aF st0 bs) T);obtain ⟨B1,DU⟩:=ae (bs++T);have AL:=ab (show G1.length<=121 * (i+1)/\B1.length<=60 * (i+1) from by
      have h1:=iT (aF st0 bs) T;have h2:=HL.out;have h3:=I6.out;rw [Ep,DU,List.length_append,List.length_append];omega)
     have DT:=ab (show PnOk wd ht p1/\AllV G1/\inBytes B1/\G1.length<=1000000/\B1.length<=1000000 from ⟨by rw [DJ];exact Je.out,by rw [Ep];exact Ol.out.app (AllV.told KT.out On.out),by rw [DU];exact y9 KT.out On.out,by have:=AL.out;omega,by have:=AL.out;omega⟩);rw [<-iC] at f1;rw [<-Ep,<-DU] at f1 Cc;rw [show FOn (fun _=>True) BB w1 gp gg gr wd gf R1 p G1 (aF st0 B1) op1=FOn (fun _=>True) BB w1 gp gg gr wd gf R1 p1 G1 (aF st0 B1) op1 from by rw [DJ]] at f1;have Cc:∀ w' (_:Below w1.heap.size w1 w'),Calls Tryz.prog 33 #[.agg #[.slice vo nL vk,.int .i64 p.r,.int .i64 p.c,.bool p.pd,.bool p.au,.slice go1 nG gk,.slice bo nB bk,.int .i64 ((aA st0 bs).length:Nat)],.slice ta tn tc] w' (fun e w2=>∃ x,e=.returned x/\RQ w1 gp gr gf gb R1 op1 p1 G1 B1 x w2/\Below w'.heap.size w' w2):=by rw [DJ];exact Cc
     have Jp:=ab Cc;clear Cc hc1 Lp Ep DU DJ;have Q1:=ab q1;have F1:=ab f1;have JV:=ab bw1;clear q1 f1 bw1 u1 b1 rf1 AA kg;clear DQ;obtain ⟨A2,CB⟩ : ∃ CC:Array Bool->Value->World->Prop,CC=fun L8 x w'=>Below W.heap.size W w'/\(Mix.one L8 7=0->Below w1.heap.size w1 w')/\(Mix.one L8 6=1->Mix.one L8 7=0->RQ w1 gp gr gf gb R1 op1 p1 G1 B1 x w')/\(Mix.one L8 7=1->∃ v' gv' bv',QBox w' gp gr gf gb R1 op1 p1 G1 B1 v' gv' bv'/\FAt (fun _=>True) w' BB gp gg gr wd gf R1 p1 G1 (aF st0 B1) op1):=⟨_,rfl⟩
     obtain ⟨Fb,BY,F5,DD⟩:=Reg.xT;obtain ⟨Hv,Eg,C8,CZ,Df,CX,Da,C0,C7,DC⟩:=Reg.e8 Fb
      (fun xx _=>xx=.agg #[.slice vo nL vk,.int .i64 p.r,.int .i64 p.c,.bool p.pd,.bool p.au,.slice go1 nG gk,.slice bo nB bk,.int .i64 ((aA st0 bs).length:Nat)])
      (fun xx _=>xx=.slice (some ⟨b,off,none⟩) m ca)
      (fun xx _=>xx=.int .i64 i)
      (fun xx _=>xx=.pointer (some ⟨b,off+i * 3,none⟩))
      (fun xx _=>xx=.pointer (some ⟨b,off+i * 3+1,none⟩))
      (fun xx _=>xx=.slice ta tn tc)
      (fun x w'=>True)
      (fun xx _=>xx=undef)
      (s6:=fun x w w1 hx h=>by rw [BY] at hx;exact h)
     have Dm:Hid (∀ i L {x:Value} w,(i == 6 || i == 7)=false ->  A2 L x w->A2 (L.setIfInBounds i true) x w):=ab (by
      intro i L x w q h;simp only [Bool.or_eq_false_iff,beq_eq_false_iff_ne] at q;rw [CB] at h ⊢;simp only [Mix.one_ne q.1,Mix.one_ne q.2];exact h)
     have EO:Hid (∀ L {x:Value} w w1,A2 L x w->Below w.heap.size w w1->A2 L x w1):=ab (by
      intro L x w w1 h hb;rw [CB] at h ⊢
      (obtain ⟨q1,q2,q3,q4⟩:=h;exact ⟨q1.trans (hb.mono q1.size),fun e=>(q2 e).trans (hb.mono (q2 e).size),fun e f=>(q3 e f).below (q2 f).size hb,fun e=>by obtain ⟨a1,a2,a3,h1,h2⟩:=q4 e;exact ⟨a1,a2,a3,h1.below h2 hb,h2.below hb⟩⟩))
     have FK:=ab (show ∀ x,A2 (Array.replicate 8 false) x w1.drew from fun x=>by rw [CB];exact ⟨JV.out.trans ((Below.refl w1.heap.size w1).drew.mono JV.out.size),fun _=>(Below.refl _ _).drew,fun e=>absurd e (by decide),fun e=>absurd e (by decide)⟩);have A7:=ab (fun (i:Nat) L {x:Value} w v q (h:A2 L x w) (e:Hv i v w)=>Reg.hk (Dm.out i L w q h) e (F5.out w));have Az:=ab CB;have C5:=ab BY;clear CB BY
     go_wp2_with fail
     refine RegC.regionF 6 Hv A2 Fb Eg.out (by kernel_rfl) (by kernel_rfl) (by kernel_rfl) FK.out (fun Frgb Aw=>?_);simp only [Reg.frame,Reg.dsts,List.map_cons,List.map_nil,Mix.put_lit,Reg.put_none,List.set_cons_succ,List.set_cons_zero,Nat.zero_add,Nat.reduceAdd] at Aw;refine ⟨⟨?_,?_,?_,?_,?_,?_,?_,?_,trivial⟩,?_⟩
     ·intro Lq wq xq hh;simp only [Aw];refine Reg.go rfl ?_;have hc:A2 Lq (xq 6) wq:=hh.cls;rw [Az.out] at hc;have hq:=Q1.out.hasAt F1.out.1 (hc.2.1 (Mix.one_un (hh.notYet 7 (by kernel_rfl))));have q0:=hq.cell 0 _ rfl;have q1:=hq.cell 1 _ rfl;have q2:=hq.cell 2 _ rfl;have q3:=hq.cell 3 _ rfl;have q4:=hq.cell 4 _ rfl;have q5:=hq.cell 5 _ rfl;have q6:=hq.cell 6 _ rfl;have q7:=hq.cell 7 _ rfl;clear hc;have HK:=A7.out 0 _ _ _ rfl hh.cls ((C8.out _ _).mpr rfl);go_simp;exact HK.out
     ·intro Lq wq xq hh;simp only [Aw];refine Reg.go rfl ?_;have HK:=A7.out 1 _ _ _ rfl hh.cls ((CZ.out _ _).mpr rfl);go_simp;exact HK.out
     ·intro Lq wq xq hh;simp only [Aw];refine Reg.go rfl ?_;have HK:=A7.out 2 _ _ _ rfl hh.cls ((Df.out _ _).mpr rfl);go_simp;exact HK.out
     ·intro Lq wq xq hh;simp only [Aw,(CZ.out _ _).mp (hh.v 1),(Df.out _ _).mp (hh.v 2)];refine Reg.go rfl ?_;have HK:=A7.out 3 _ _ _ rfl hh.cls ((CX.out _ _).mpr rfl);go_simp;exact HK.out
     ·intro Lq wq xq hh;simp only [Aw,(CX.out _ _).mp (hh.v 3)];refine Reg.go rfl ?_;have HK:=A7.out 4 _ _ _ rfl hh.cls ((Da.out _ _).mpr rfl);go_simp;exact HK.out
     ·intro Lq wq xq hh;simp only [Aw,(Da.out _ _).mp (hh.v 4)];refine Reg.go rfl ?_;have hc:A2 Lq (xq 6) wq:=hh.cls;rw [Az.out] at hc;have y0:=(hc.1.cell (p:=⟨b,off+i * 3+1,none⟩) Kx.out).trans EJ.out;clear hc;have HK:=A7.out 5 _ _ _ rfl hh.cls ((C0.out _ _).mpr rfl);go_simp;exact HK.out
     ·intro Lq wq xq hh;simp only [Aw,(C8.out _ _).mp (hh.v 0),(C0.out _ _).mp (hh.v 5)];refine Reg.go rfl ?_;unfold Reg.upon;have hc:A2 Lq (xq 6) wq:=hh.cls;rw [Az.out] at hc;have hb:=hc.2.1 (Mix.one_un (hh.notYet 7 (by kernel_rfl)));have Po:=Jp.out wq hb;go_simp;refine Po.mono ?_;rintro e w2 ⟨x,rfl,hr,b9⟩;have hF:A2 (Lq.setIfInBounds 6 true) x w2:=by
       rw [Az.out];refine ⟨hc.1.trans (b9.mono hc.1.size),fun _=>hb.trans (b9.mono hb.size),fun _ _=>hr,fun e=>?_⟩;rw [Mix.one_ne (by decide),Mix.one_un (hh.notYet 7 (by kernel_rfl))] at e;exact absurd e (by decide)
      exact ⟨_,rfl,hF,(by rw [C7.out];trivial),(by rw [C5.out];trivial)⟩
     ·intro Lq wq xq hh;have d6:=(C7.out _ _).mp (hh.v 6);simp only [Aw];refine Reg.go rfl ?_;unfold Reg.upon;have hc:A2 Lq (xq 6) wq:=hh.cls;rw [Az.out] at hc;have hb:=hc.2.1 hh.un;have hr:=hc.2.2.1 (hh.isDone 6 (by kernel_rfl)) hh.un;have Aj:=Q1.out.hasAt F1.out.1 hb;have s0:=Aj.cell 0 _ rfl;have s1:=Aj.cell 1 _ rfl;have s2:=Aj.cell 2 _ rfl;have s3:=Aj.cell 3 _ rfl;have s4:=Aj.cell 4 _ rfl;have s5:=Aj.cell 5 _ rfl;have s6:=Aj.cell 6 _ rfl;have s7:=Aj.cell 7 _ rfl;have f0:=Aj.free 0;have f1:=Aj.free 1;have f2:=Aj.free 2;have f3:=Aj.free 3;have f4:=Aj.free 4;have f5:=Aj.free 5;have f6:=Aj.free 6;have f7:=Aj.free 7;obtain ⟨v',gv',bv',e1,q9,f9⟩:=QBox.store Q1.out F1.out.1 hb hr;obtain ⟨o9,k9,ev1⟩:=q9.2.1.len;obtain ⟨g9,l9,ev2⟩:=q9.2.2.1.len;obtain ⟨b0,j9,ev3⟩:=q9.2.2.2.len;obtain ⟨n9,GU⟩:=ae (p1.L.length);obtain ⟨m9,JJ⟩:=ae (G1.length);obtain ⟨h9,FD⟩:=ae (B1.length);rw [<-GU] at ev1;rw [<-JJ] at ev2;rw [<-FD] at ev3;subst ev1;subst ev2;subst ev3;clear GU JJ FD;have hF:A2 (Lq.setIfInBounds 7 true) (xq 6) ((((((((wq.setCell ⟨gb,0,none⟩ (.slice o9 n9 k9)).setCell ⟨gb,1,none⟩ (.int .i64 p1.r)).setCell ⟨gb,2,none⟩ (.int .i64 p1.c)).setCell ⟨gb,3,none⟩ (.bool p1.pd)).setCell ⟨gb,4,none⟩ (.bool p1.au)).setCell ⟨gb,5,none⟩ (.slice g9 m9 l9)).setCell ⟨gb,6,none⟩ (.slice b0 h9 j9)).setCell ⟨gb,7,none⟩ (.int .i64 ((aA st0 B1).length:Nat))):=by
       rw [Az.out];refine ⟨hc.1.trans ((db wq gb _ (.int .i64 p1.r) (.int .i64 p1.c) (.bool p1.pd) (.bool p1.au) _ _ (.int .i64 ((aA st0 B1).length:Nat))).below hc.1.size (fun x e=>by rw [e];exact CI.out)),fun e=>?_,fun _ e=>?_,fun _=>⟨_,_,_,q9,f9⟩⟩
       ·rw [Mix.one_set (by rw [hh.size];decide)] at e;exact absurd e (by decide)
       ·rw [Mix.one_set (by rw [hh.size];decide)] at e;exact absurd e (by decide)
      have hE:Hv 7 undef ((((((((wq.setCell ⟨gb,0,none⟩ (.slice o9 n9 k9)).setCell ⟨gb,1,none⟩ (.int .i64 p1.r)).setCell ⟨gb,2,none⟩ (.int .i64 p1.c)).setCell ⟨gb,3,none⟩ (.bool p1.pd)).setCell ⟨gb,4,none⟩ (.bool p1.au)).setCell ⟨gb,5,none⟩ (.slice g9 m9 l9)).setCell ⟨gb,6,none⟩ (.slice b0 h9 j9)).setCell ⟨gb,7,none⟩ (.int .i64 ((aA st0 B1).length:Nat))):=by rw [DC.out]
      have hX:Fb wq ((((((((wq.setCell ⟨gb,0,none⟩ (.slice o9 n9 k9)).setCell ⟨gb,1,none⟩ (.int .i64 p1.r)).setCell ⟨gb,2,none⟩ (.int .i64 p1.c)).setCell ⟨gb,3,none⟩ (.bool p1.pd)).setCell ⟨gb,4,none⟩ (.bool p1.au)).setCell ⟨gb,5,none⟩ (.slice g9 m9 l9)).setCell ⟨gb,6,none⟩ (.slice b0 h9 j9)).setCell ⟨gb,7,none⟩ (.int .i64 ((aA st0 B1).length:Nat))):=by rw [C5.out];trivial
      rw [e1];clear hc Aj hb hr q9 f9;go_simp;exact ⟨hF,hE,hX⟩
     intro xq wrgb D2 JF;rw [Az.out] at D2;simp only [Aw];clear JF Aw A7 Dm F5 Eg FK Az C5 EO DD C8 CZ Df CX Da C0 C7 DC;obtain ⟨v2,gv2,bv2,Au,hf2⟩:=D2.2.2.2 (by kernel_rfl);have Jg:=ab D2.1;obtain ⟨w5,EH⟩:=ae (wrgb);rw [<-EH] at Au hf2 Jg;rw [<-EH];clear EH D2 Jp;have ES:=ab Au;have IR:=ab (show FOn (fun _=>True) BB w5 gp gg gr wd gf R1 p1 G1 (aF st0 B1) op1 from ⟨hf2,F1.out.2.1,F1.out.2.2.1,Nat.le_trans hf2.2.gp_lt.1 (Nat.le_of_lt hf2.2.gp_lt.2)⟩);clear Au hf2;go_wp2;go_meet
     case rel=>exact ⟨R1,p1,G1,B1,op1,v2,gv2,bv2,IR.out,ES.out,Jg.out,DT.out,AL.out⟩
    by_cases J2:K=1
    ·
     have k0:(K == 0)=false:=by rw [beq_eq_false_iff_ne];omega
     have k1:(K == 1)=true:=by rw [beq_iff_eq];omega
     have DQ:=ab (sf BB gp gg gr wd gf R p G (aF st0 bs) op X wq HF.out.1)
     go_wp2_with fail
     refine DQ.out.mono ?_;rintro e w1 ⟨rfl,kg⟩;obtain ⟨R1,op1,f1,u1,b1,rf1,AA⟩:=HF.out.go kg;have q1:=HQ.out.go HF.out.1 u1 rf1 AA;have bw1:=HB.out.trans (b1.mono MJ.out);have Cc:=fun w' hb=>q1.rune (w1:=w') hb X (by have:=HL.out.1;omega)
     obtain ⟨p1,DJ⟩:=ae (p);obtain ⟨G1,Ep⟩:=ae (G++[aS X]);obtain ⟨B1,DU⟩:=ae (bs);have AL:=ab (show G1.length<=121 * (i+1)/\B1.length<=60 * (i+1) from by
      have h2:=HL.out;rw [Ep,DU,List.length_append];simp only [List.length_cons,List.length_nil];omega)
     have DT:=ab (show PnOk wd ht p1/\AllV G1/\inBytes B1/\G1.length<=1000000/\B1.length<=1000000 from ⟨by rw [DJ];exact Je.out,by rw [Ep];exact Ol.out.app (AllV.one X),by rw [DU];exact KT.out,by have:=AL.out;omega,by have:=AL.out;omega⟩);have f1:FOn (fun _=>True) BB w1 gp gg gr wd gf R1 p1 G1 (aF st0 B1) op1:=by rw [DJ,Ep,DU];exact f1
     have Cc:∀ w' (_:Below w1.heap.size w1 w'),Calls Tryz.prog 34 #[.agg #[.slice vo nL vk,.int .i64 p.r,.int .i64 p.c,.bool p.pd,.bool p.au,.slice go1 nG gk,.slice bo nB bk,.int .i64 ((aA st0 bs).length:Nat)],.int .i32 X] w' (fun e w2=>∃ x,e=.returned x/\RQ w1 gp gr gf gb R1 op1 p1 G1 B1 x w2/\Below w'.heap.size w' w2):=by rw [DJ,Ep,DU];exact Cc
     have Jp:=ab Cc;clear Cc Ep DU DJ;have Q1:=ab q1;have F1:=ab f1;have JV:=ab bw1;clear q1 f1 bw1 u1 b1 rf1 AA kg;clear DQ;obtain ⟨Dw,FP⟩ : ∃ CC:Array Bool->Value->World->Prop,CC=fun L8 x w'=>Below W.heap.size W w'/\(Mix.one L8 7=0->Below w1.heap.size w1 w')/\(Mix.one L8 6=1->Mix.one L8 7=0->RQ w1 gp gr gf gb R1 op1 p1 G1 B1 x w')/\(Mix.one L8 7=1->∃ v' gv' bv',QBox w' gp gr gf gb R1 op1 p1 G1 B1 v' gv' bv'/\FAt (fun _=>True) w' BB gp gg gr wd gf R1 p1 G1 (aF st0 B1) op1):=⟨_,rfl⟩
     obtain ⟨Mk,Js,Hrgrx,Hrgrxb⟩:=Reg.xT;obtain ⟨Mm,Hrgrst,GV,GT,It,GA,Hs,Iv,Hx,Hrgre7⟩:=Reg.e8 Mk
      (fun xx _=>xx=.agg #[.slice vo nL vk,.int .i64 p.r,.int .i64 p.c,.bool p.pd,.bool p.au,.slice go1 nG gk,.slice bo nB bk,.int .i64 ((aA st0 bs).length:Nat)])
      (fun xx _=>xx=.slice (some ⟨b,off,none⟩) m ca)
      (fun xx _=>xx=.int .i64 i)
      (fun xx _=>xx=.pointer (some ⟨b,off+i * 3,none⟩))
      (fun xx _=>xx=.pointer (some ⟨b,off+i * 3+2,none⟩))
      (fun xx _=>xx=.int .i32 X)
      (fun x w'=>True)
      (fun xx _=>xx=undef)
      (s6:=fun x w w1 hx h=>by rw [Js] at hx;exact h)
     have Hrgrk:Hid (∀ i L {x:Value} w,(i == 6 || i == 7)=false ->  Dw L x w->Dw (L.setIfInBounds i true) x w):=ab (by
      intro i L x w q h;simp only [Bool.or_eq_false_iff,beq_eq_false_iff_ne] at q;rw [FP] at h ⊢;simp only [Mix.one_ne q.1,Mix.one_ne q.2];exact h)
     have Hrgrb:Hid (∀ L {x:Value} w w1,Dw L x w->Below w.heap.size w w1->Dw L x w1):=ab (by
      intro L x w w1 h hb;rw [FP] at h ⊢
      (obtain ⟨q1,q2,q3,q4⟩:=h;exact ⟨q1.trans (hb.mono q1.size),fun e=>(q2 e).trans (hb.mono (q2 e).size),fun e f=>(q3 e f).below (q2 f).size hb,fun e=>by obtain ⟨a1,a2,a3,h1,h2⟩:=q4 e;exact ⟨a1,a2,a3,h1.below h2 hb,h2.below hb⟩⟩))
     have Hrgrc:=ab (show ∀ x,Dw (Array.replicate 8 false) x w1.drew from fun x=>by rw [FP];exact ⟨JV.out.trans ((Below.refl w1.heap.size w1).drew.mono JV.out.size),fun _=>(Below.refl _ _).drew,fun e=>absurd e (by decide),fun e=>absurd e (by decide)⟩);have Ed:=ab (fun (i:Nat) L {x:Value} w v q (h:Dw L x w) (e:Mm i v w)=>Reg.hk (Hrgrk.out i L w q h) e (Hrgrx.out w));have Cw:=ab FP;have GS:=ab Js;clear FP Js
     go_wp2_with fail
     refine RegC.regionF 6 Mm Dw Mk Hrgrst.out (by kernel_rfl) (by kernel_rfl) (by kernel_rfl) Hrgrc.out (fun Frgr Co=>?_);simp only [Reg.frame,Reg.dsts,List.map_cons,List.map_nil,Mix.put_lit,Reg.put_none,List.set_cons_succ,List.set_cons_zero,Nat.zero_add,Nat.reduceAdd] at Co;refine ⟨⟨?_,?_,?_,?_,?_,?_,?_,?_,trivial⟩,?_⟩
     ·intro Lq wq xq hh;simp only [Co];refine Reg.go rfl ?_;have hc:Dw Lq (xq 6) wq:=hh.cls;rw [Cw.out] at hc;have hq:=Q1.out.hasAt F1.out.1 (hc.2.1 (Mix.one_un (hh.notYet 7 (by kernel_rfl))));have q0:=hq.cell 0 _ rfl;have q1:=hq.cell 1 _ rfl;have q2:=hq.cell 2 _ rfl;have q3:=hq.cell 3 _ rfl;have q4:=hq.cell 4 _ rfl;have q5:=hq.cell 5 _ rfl;have q6:=hq.cell 6 _ rfl;have q7:=hq.cell 7 _ rfl;clear hc;have HK:=Ed.out 0 _ _ _ rfl hh.cls ((GV.out _ _).mpr rfl);go_simp;exact HK.out
     ·intro Lq wq xq hh;simp only [Co];refine Reg.go rfl ?_;have HK:=Ed.out 1 _ _ _ rfl hh.cls ((GT.out _ _).mpr rfl);go_simp;exact HK.out
     ·intro Lq wq xq hh;simp only [Co];refine Reg.go rfl ?_;have HK:=Ed.out 2 _ _ _ rfl hh.cls ((It.out _ _).mpr rfl);go_simp;exact HK.out
     ·intro Lq wq xq hh;simp only [Co,(GT.out _ _).mp (hh.v 1),(It.out _ _).mp (hh.v 2)];refine Reg.go rfl ?_;have HK:=Ed.out 3 _ _ _ rfl hh.cls ((GA.out _ _).mpr rfl);go_simp;exact HK.out
     ·intro Lq wq xq hh;simp only [Co,(GA.out _ _).mp (hh.v 3)];refine Reg.go rfl ?_;have HK:=Ed.out 4 _ _ _ rfl hh.cls ((Hs.out _ _).mpr rfl);go_simp;exact HK.out
     ·intro Lq wq xq hh;simp only [Co,(Hs.out _ _).mp (hh.v 4)];refine Reg.go rfl ?_;have hc:Dw Lq (xq 6) wq:=hh.cls;rw [Cw.out] at hc;have y0:=(hc.1.cell (p:=⟨b,off+i * 3+2,none⟩) Kx.out).trans I5.out;clear hc;have HK:=Ed.out 5 _ _ _ rfl hh.cls ((Iv.out _ _).mpr rfl);go_simp;exact HK.out
     ·intro Lq wq xq hh;simp only [Co,(GV.out _ _).mp (hh.v 0),(Iv.out _ _).mp (hh.v 5)];refine Reg.go rfl ?_;unfold Reg.upon;have hc:Dw Lq (xq 6) wq:=hh.cls;rw [Cw.out] at hc;have hb:=hc.2.1 (Mix.one_un (hh.notYet 7 (by kernel_rfl)));have Po:=Jp.out wq hb;go_simp;refine Po.mono ?_;rintro e w2 ⟨x,rfl,hr,b9⟩;have hF:Dw (Lq.setIfInBounds 6 true) x w2:=by
       rw [Cw.out];refine ⟨hc.1.trans (b9.mono hc.1.size),fun _=>hb.trans (b9.mono hb.size),fun _ _=>hr,fun e=>?_⟩;rw [Mix.one_ne (by decide),Mix.one_un (hh.notYet 7 (by kernel_rfl))] at e;exact absurd e (by decide)
      exact ⟨_,rfl,hF,(by rw [Hx.out];trivial),(by rw [GS.out];trivial)⟩
     ·intro Lq wq xq hh;have d6:=(Hx.out _ _).mp (hh.v 6);simp only [Co];refine Reg.go rfl ?_;unfold Reg.upon;have hc:Dw Lq (xq 6) wq:=hh.cls;rw [Cw.out] at hc;have hb:=hc.2.1 hh.un;have hr:=hc.2.2.1 (hh.isDone 6 (by kernel_rfl)) hh.un;have Aj:=Q1.out.hasAt F1.out.1 hb;have s0:=Aj.cell 0 _ rfl;have s1:=Aj.cell 1 _ rfl;have s2:=Aj.cell 2 _ rfl;have s3:=Aj.cell 3 _ rfl;have s4:=Aj.cell 4 _ rfl;have s5:=Aj.cell 5 _ rfl;have s6:=Aj.cell 6 _ rfl;have s7:=Aj.cell 7 _ rfl;have f0:=Aj.free 0;have f1:=Aj.free 1;have f2:=Aj.free 2;have f3:=Aj.free 3;have f4:=Aj.free 4;have f5:=Aj.free 5;have f6:=Aj.free 6;have f7:=Aj.free 7;obtain ⟨v',gv',bv',e1,q9,f9⟩:=QBox.store Q1.out F1.out.1 hb hr;obtain ⟨o9,k9,ev1⟩:=q9.2.1.len;obtain ⟨g9,l9,ev2⟩:=q9.2.2.1.len;obtain ⟨b0,j9,ev3⟩:=q9.2.2.2.len;obtain ⟨n9,GU⟩:=ae (p1.L.length);obtain ⟨m9,JJ⟩:=ae (G1.length);obtain ⟨h9,FD⟩:=ae (B1.length);rw [<-GU] at ev1;rw [<-JJ] at ev2;rw [<-FD] at ev3;subst ev1;subst ev2;subst ev3;clear GU JJ FD;have hF:Dw (Lq.setIfInBounds 7 true) (xq 6) ((((((((wq.setCell ⟨gb,0,none⟩ (.slice o9 n9 k9)).setCell ⟨gb,1,none⟩ (.int .i64 p1.r)).setCell ⟨gb,2,none⟩ (.int .i64 p1.c)).setCell ⟨gb,3,none⟩ (.bool p1.pd)).setCell ⟨gb,4,none⟩ (.bool p1.au)).setCell ⟨gb,5,none⟩ (.slice g9 m9 l9)).setCell ⟨gb,6,none⟩ (.slice b0 h9 j9)).setCell ⟨gb,7,none⟩ (.int .i64 ((aA st0 B1).length:Nat))):=by
       rw [Cw.out];refine ⟨hc.1.trans ((db wq gb _ (.int .i64 p1.r) (.int .i64 p1.c) (.bool p1.pd) (.bool p1.au) _ _ (.int .i64 ((aA st0 B1).length:Nat))).below hc.1.size (fun x e=>by rw [e];exact CI.out)),fun e=>?_,fun _ e=>?_,fun _=>⟨_,_,_,q9,f9⟩⟩
       ·rw [Mix.one_set (by rw [hh.size];decide)] at e;exact absurd e (by decide)
       ·rw [Mix.one_set (by rw [hh.size];decide)] at e;exact absurd e (by decide)
      have hE:Mm 7 undef ((((((((wq.setCell ⟨gb,0,none⟩ (.slice o9 n9 k9)).setCell ⟨gb,1,none⟩ (.int .i64 p1.r)).setCell ⟨gb,2,none⟩ (.int .i64 p1.c)).setCell ⟨gb,3,none⟩ (.bool p1.pd)).setCell ⟨gb,4,none⟩ (.bool p1.au)).setCell ⟨gb,5,none⟩ (.slice g9 m9 l9)).setCell ⟨gb,6,none⟩ (.slice b0 h9 j9)).setCell ⟨gb,7,none⟩ (.int .i64 ((aA st0 B1).length:Nat))):=by rw [Hrgre7.out]
      have hX:Mk wq ((((((((wq.setCell ⟨gb,0,none⟩ (.slice o9 n9 k9)).setCell ⟨gb,1,none⟩ (.int .i64 p1.r)).setCell ⟨gb,2,none⟩ (.int .i64 p1.c)).setCell ⟨gb,3,none⟩ (.bool p1.pd)).setCell ⟨gb,4,none⟩ (.bool p1.au)).setCell ⟨gb,5,none⟩ (.slice g9 m9 l9)).setCell ⟨gb,6,none⟩ (.slice b0 h9 j9)).setCell ⟨gb,7,none⟩ (.int .i64 ((aA st0 B1).length:Nat))):=by rw [GS.out];trivial
      rw [e1];clear hc Aj hb hr q9 f9;go_simp;exact ⟨hF,hE,hX⟩
     intro xq wrgr IG hvrgr;rw [Cw.out] at IG;simp only [Co];clear hvrgr Co Ed Hrgrk Hrgrx Hrgrst Hrgrc Cw GS Hrgrb Hrgrxb GV GT It GA Hs Iv Hx Hrgre7;obtain ⟨v2,gv2,bv2,Au,hf2⟩:=IG.2.2.2 (by kernel_rfl);have Jg:=ab IG.1;obtain ⟨w5,EH⟩:=ae (wrgr);rw [<-EH] at Au hf2 Jg;rw [<-EH];clear EH IG Jp;have ES:=ab Au;have IR:=ab (show FOn (fun _=>True) BB w5 gp gg gr wd gf R1 p1 G1 (aF st0 B1) op1 from ⟨hf2,F1.out.2.1,F1.out.2.2.1,Nat.le_trans hf2.2.gp_lt.1 (Nat.le_of_lt hf2.2.gp_lt.2)⟩);clear Au hf2;go_wp2;go_meet
     case rel=>exact ⟨R1,p1,G1,B1,op1,v2,gv2,bv2,IR.out,ES.out,Jg.out,DT.out,AL.out⟩
    by_cases hk2:K=2
    ·
     have k0:(K == 0)=false:=by rw [beq_eq_false_iff_ne];omega
     have k1:(K == 1)=false:=by rw [beq_eq_false_iff_ne];omega
     have k2:(K == 2)=true:=by rw [beq_iff_eq];omega
     have DQ:=ab (xF BB gp gg gr wd gf R p G (aF st0 bs) op wq HF.out.1 (xd KT.out))
     go_wp2_with fail
     refine DQ.out.mono ?_;rintro e w1 ⟨rfl,kg⟩;obtain ⟨R1,op1,f1,u1,b1,rf1,AA⟩:=HF.out.go kg;have q1:=HQ.out.go HF.out.1 u1 rf1 AA;have bw1:=HB.out.trans (b1.mono MJ.out);have Cc:=fun w' hb=>q1.flush (ht:=ht) (w1:=w') hb DM.out Je.out (by have:=HL.out.1;omega) Ol.out (by have:=HL.out.2;omega) KT.out
     obtain ⟨p1,DJ⟩:=ae (bH wd p (bj (G++flT (aF st0 bs))));obtain ⟨G1,Ep⟩ : ∃ G1:List Int,G1=[]:=⟨_,rfl⟩;obtain ⟨B1,DU⟩ : ∃ B1:List Int,B1=[]:=⟨_,rfl⟩;have AL:=ab (show G1.length<=121 * (i+1)/\B1.length<=60 * (i+1) from by
      rw [Ep,DU];simp only [List.length_nil];omega)
     have DT:=ab (show PnOk wd ht p1/\AllV G1/\inBytes B1/\G1.length<=1000000/\B1.length<=1000000 from ⟨by rw [DJ];exact Je.out.lay DM.out _ ,by rw [Ep];exact AllV.nil,by rw [DU];exact xb,by have:=AL.out;omega,by have:=AL.out;omega⟩);have f1:FOn (fun _=>True) BB w1 gp gg gr wd gf R1 p1 G1 (aF st0 B1) op1:=by rw [DJ,Ep,DU];exact f1
     have Cc:∀ w' (_:Below w1.heap.size w1 w'),Calls Tryz.prog 35 #[.agg #[.slice vo nL vk,.int .i64 p.r,.int .i64 p.c,.bool p.pd,.bool p.au,.slice go1 nG gk,.slice bo nB bk,.int .i64 ((aA st0 bs).length:Nat)]] w' (fun e w2=>∃ x,e=.returned x/\RQ w1 gp gr gf gb R1 op1 p1 G1 B1 x w2/\Below w'.heap.size w' w2):=by rw [DJ,Ep,DU];exact Cc
     have Jp:=ab Cc;clear Cc Ep DU DJ;have Q1:=ab q1;have F1:=ab f1;have JV:=ab bw1;clear q1 f1 bw1 u1 b1 rf1 AA kg;clear DQ;have Aj:=Q1.out.1;have q0:=Aj.cell 0 _ rfl;have q1:=Aj.cell 1 _ rfl;have q2:=Aj.cell 2 _ rfl;have q3:=Aj.cell 3 _ rfl;have q4:=Aj.cell 4 _ rfl;have q5:=Aj.cell 5 _ rfl;have q6:=Aj.cell 6 _ rfl;have q7:=Aj.cell 7 _ rfl;clear Aj
     go_wp2_with fail
     refine (Jp.out w1 (Below.refl _ _)).mono ?_;rintro e w2 ⟨x,rfl,hr,b2⟩;obtain ⟨v',gv',bv',e1,q9,f9⟩:=QBox.store Q1.out F1.out.1 b2 hr;obtain ⟨o9,k9,ev1⟩:=q9.2.1.len;obtain ⟨g9,l9,ev2⟩:=q9.2.2.1.len;obtain ⟨b0,j9,ev3⟩:=q9.2.2.2.len;obtain ⟨n9,GU⟩:=ae (p1.L.length);obtain ⟨m9,JJ⟩:=ae (G1.length);obtain ⟨h9,FD⟩:=ae (B1.length);rw [<-GU] at ev1;rw [<-JJ] at ev2;rw [<-FD] at ev3;subst ev1;subst ev2;subst ev3;clear GU JJ FD;subst e1;have Aj:=Q1.out.hasAt F1.out.1 b2;clear q0 q1 q2 q3 q4 q5 q6 q7;have s0:=Aj.cell 0 _ rfl;have s1:=Aj.cell 1 _ rfl;have s2:=Aj.cell 2 _ rfl;have s3:=Aj.cell 3 _ rfl;have s4:=Aj.cell 4 _ rfl;have s5:=Aj.cell 5 _ rfl;have s6:=Aj.cell 6 _ rfl;have s7:=Aj.cell 7 _ rfl;have f0:=Aj.free 0;have f1:=Aj.free 1;have f2:=Aj.free 2;have f3:=Aj.free 3;have f4:=Aj.free 4;have f5:=Aj.free 5;have f6:=Aj.free 6;have f7:=Aj.free 7;obtain ⟨w5,EH⟩:=ae (((((((((w2.setCell ⟨gb,0,none⟩ (.slice o9 n9 k9)).setCell ⟨gb,1,none⟩ (.int .i64 p1.r)).setCell ⟨gb,2,none⟩ (.int .i64 p1.c)).setCell ⟨gb,3,none⟩ (.bool p1.pd)).setCell ⟨gb,4,none⟩ (.bool p1.au)).setCell ⟨gb,5,none⟩ (.slice g9 m9 l9)).setCell ⟨gb,6,none⟩ (.slice b0 h9 j9)).setCell ⟨gb,7,none⟩ (.int .i64 ((aA st0 B1).length:Nat))));obtain ⟨v2,gv2,bv2,Au⟩ : ∃ v2 gv2 bv2,QBox w5 gp gr gf gb R1 op1 p1 G1 B1 v2 gv2 bv2:=⟨_,_,_,by rw [EH];exact q9⟩;have hf2:FAt (fun _=>True) w5 BB gp gg gr wd gf R1 p1 G1 (aF st0 B1) op1:=by rw [EH];exact f9
     have Jg:=ab (show Below W.heap.size W w5 from by
      have k1:=JV.out.trans (b2.mono JV.out.size);rw [EH];exact k1.trans ((db w2 gb _ (.int .i64 p1.r) (.int .i64 p1.c) (.bool p1.pd) (.bool p1.au) _ _ (.int .i64 ((aA st0 B1).length:Nat))).below k1.size (fun x e=>by rw [e];exact CI.out)))
     have Di:=ab EH;clear Aj hr b2 q9 f9 EH Jp;have ES:=ab Au;have IR:=ab (show FOn (fun _=>True) BB w5 gp gg gr wd gf R1 p1 G1 (aF st0 B1) op1 from ⟨hf2,F1.out.2.1,F1.out.2.2.1,Nat.le_trans hf2.2.gp_lt.1 (Nat.le_of_lt hf2.2.gp_lt.2)⟩);clear Au hf2;go_wp2;go_meet
     case rel =>
      rw [<-Di.out];exact ⟨R1,p1,G1,B1,op1,v2,gv2,bv2,IR.out,ES.out,Jg.out,DT.out,AL.out⟩
    have k0:(K == 0)=false:=by rw [beq_eq_false_iff_ne];omega
    have k1:(K == 1)=false:=by rw [beq_eq_false_iff_ne];omega
    have k2:(K == 2)=false:=by rw [beq_eq_false_iff_ne];omega
    have DQ:=ab (mn HF.out.1)
    go_wp2_with fail
    refine DQ.out.mono ?_;rintro e w1 ⟨rfl,kg⟩;obtain ⟨R1,op1,f1,u1,b1,rf1,AA⟩:=HF.out.go kg;have q1:=HQ.out.go HF.out.1 u1 rf1 AA;have bw1:=HB.out.trans (b1.mono MJ.out);have Cc:=fun w' hb=>q1.close (ht:=ht) (w1:=w') hb DM.out Je.out (by have:=HL.out.1;omega) Ol.out
    obtain ⟨p1,DJ⟩:=ae (bH wd p (bj G));obtain ⟨G1,Ep⟩ : ∃ G1:List Int,G1=[]:=⟨_,rfl⟩;obtain ⟨B1,DU⟩:=ae (bs);have AL:=ab (show G1.length<=121 * (i+1)/\B1.length<=60 * (i+1) from by
     have h2:=HL.out;rw [Ep,DU];simp only [List.length_nil];omega)
    have DT:=ab (show PnOk wd ht p1/\AllV G1/\inBytes B1/\G1.length<=1000000/\B1.length<=1000000 from ⟨by rw [DJ];exact Je.out.lay DM.out _ ,by rw [Ep];exact AllV.nil,by rw [DU];exact KT.out,by have:=AL.out;omega,by have:=AL.out;omega⟩);have f1:FOn (fun _=>True) BB w1 gp gg gr wd gf R1 p1 G1 (aF st0 B1) op1:=by rw [DJ,Ep,DU];exact f1
    have Cc:∀ w' (_:Below w1.heap.size w1 w'),Calls Tryz.prog 36 #[.agg #[.slice vo nL vk,.int .i64 p.r,.int .i64 p.c,.bool p.pd,.bool p.au,.slice go1 nG gk,.slice bo nB bk,.int .i64 ((aA st0 bs).length:Nat)]] w' (fun e w2=>∃ x,e=.returned x/\RQ w1 gp gr gf gb R1 op1 p1 G1 B1 x w2/\Below w'.heap.size w' w2):=by rw [DJ,Ep,DU];exact Cc
    have Jp:=ab Cc;clear Cc Ep DU DJ;have Q1:=ab q1;have F1:=ab f1;have JV:=ab bw1;clear q1 f1 bw1 u1 b1 rf1 AA kg;clear DQ;have Aj:=Q1.out.1;have q0:=Aj.cell 0 _ rfl;have q1:=Aj.cell 1 _ rfl;have q2:=Aj.cell 2 _ rfl;have q3:=Aj.cell 3 _ rfl;have q4:=Aj.cell 4 _ rfl;have q5:=Aj.cell 5 _ rfl;have q6:=Aj.cell 6 _ rfl;have q7:=Aj.cell 7 _ rfl;clear Aj
    go_wp2_with fail
    refine (Jp.out w1 (Below.refl _ _)).mono ?_;rintro e w2 ⟨x,rfl,hr,b2⟩;obtain ⟨v',gv',bv',e1,q9,f9⟩:=QBox.store Q1.out F1.out.1 b2 hr;obtain ⟨o9,k9,ev1⟩:=q9.2.1.len;obtain ⟨g9,l9,ev2⟩:=q9.2.2.1.len;obtain ⟨b0,j9,ev3⟩:=q9.2.2.2.len;obtain ⟨n9,GU⟩:=ae (p1.L.length);obtain ⟨m9,JJ⟩:=ae (G1.length);obtain ⟨h9,FD⟩:=ae (B1.length);rw [<-GU] at ev1;rw [<-JJ] at ev2;rw [<-FD] at ev3;subst ev1;subst ev2;subst ev3;clear GU JJ FD;subst e1;have Aj:=Q1.out.hasAt F1.out.1 b2;clear q0 q1 q2 q3 q4 q5 q6 q7;have s0:=Aj.cell 0 _ rfl;have s1:=Aj.cell 1 _ rfl;have s2:=Aj.cell 2 _ rfl;have s3:=Aj.cell 3 _ rfl;have s4:=Aj.cell 4 _ rfl;have s5:=Aj.cell 5 _ rfl;have s6:=Aj.cell 6 _ rfl;have s7:=Aj.cell 7 _ rfl;have f0:=Aj.free 0;have f1:=Aj.free 1;have f2:=Aj.free 2;have f3:=Aj.free 3;have f4:=Aj.free 4;have f5:=Aj.free 5;have f6:=Aj.free 6;have f7:=Aj.free 7;obtain ⟨w5,EH⟩:=ae (((((((((w2.setCell ⟨gb,0,none⟩ (.slice o9 n9 k9)).setCell ⟨gb,1,none⟩ (.int .i64 p1.r)).setCell ⟨gb,2,none⟩ (.int .i64 p1.c)).setCell ⟨gb,3,none⟩ (.bool p1.pd)).setCell ⟨gb,4,none⟩ (.bool p1.au)).setCell ⟨gb,5,none⟩ (.slice g9 m9 l9)).setCell ⟨gb,6,none⟩ (.slice b0 h9 j9)).setCell ⟨gb,7,none⟩ (.int .i64 ((aA st0 B1).length:Nat))));obtain ⟨v2,gv2,bv2,Au⟩ : ∃ v2 gv2 bv2,QBox w5 gp gr gf gb R1 op1 p1 G1 B1 v2 gv2 bv2:=⟨_,_,_,by rw [EH];exact q9⟩;have hf2:FAt (fun _=>True) w5 BB gp gg gr wd gf R1 p1 G1 (aF st0 B1) op1:=by rw [EH];exact f9
    have Jg:=ab (show Below W.heap.size W w5 from by
     have k1:=JV.out.trans (b2.mono JV.out.size);rw [EH];exact k1.trans ((db w2 gb _ (.int .i64 p1.r) (.int .i64 p1.c) (.bool p1.pd) (.bool p1.au) _ _ (.int .i64 ((aA st0 B1).length:Nat))).below k1.size (fun x e=>by rw [e];exact CI.out)))
    have Di:=ab EH;clear Aj hr b2 q9 f9 EH Jp;have ES:=ab Au;have IR:=ab (show FOn (fun _=>True) BB w5 gp gg gr wd gf R1 p1 G1 (aF st0 B1) op1 from ⟨hf2,F1.out.2.1,F1.out.2.2.1,Nat.le_trans hf2.2.gp_lt.1 (Nat.le_of_lt hf2.2.gp_lt.2)⟩);clear Au hf2;go_wp2;go_meet
    case rel =>
     rw [<-Di.out];exact ⟨R1,p1,G1,B1,op1,v2,gv2,bv2,IR.out,ES.out,Jg.out,DT.out,AL.out⟩
   case rest =>
    obtain ⟨R1,p1,G1,B1,op1,v2,gv2,bv2,OZ,Au,hbc,DJ,Ce⟩:=hcut;obtain ⟨w5,DO⟩:=ae (wc);subst DO;have hf2:=OZ.1;have IR:=ab OZ;have Jg:=ab hbc;have DT:=ab DJ;have AL:=ab Ce;clear OZ hbc DJ Ce;obtain ⟨vo2,vk2,rfl⟩:=Au.2.1.len;obtain ⟨go2,gk2,rfl⟩:=Au.2.2.1.len;obtain ⟨bo2,bk2,rfl⟩:=Au.2.2.2.len;obtain ⟨nL2,hnL2⟩:=ae (p1.L.length);obtain ⟨nG2,hnG2⟩:=ae (G1.length);obtain ⟨nB2,hnB2⟩:=ae (B1.length);rw [<-hnL2,<-hnG2,<-hnB2] at Au;have ES:=ab Au;obtain ⟨Q,hQ⟩:=ae (bH wd p1 (bj G1));have MY:=ab (fun w' hb=>QBox.pen (ht:=ht) Au (w1:=w') hb DM.out DT.out.1 DT.out.2.2.2.1 DT.out.2.1);rw [<-hQ] at MY;have HPN2:=ab (show ∃ Yo,xH Yo w5 BB gp gg gr wd R1 Q from by obtain ⟨Yo,_,h⟩:=hf2.2.pen;rw [hQ];exact ⟨Yo,h⟩);have FF:=ab (fun w' hb=>QBox.held Au (w1:=w') hb DT.out.2.2.2.2 DT.out.2.2.1);have HFH:=ab (fun w' (hb:Below w5.heap.size w5 w')=>ml (hf2.below hb));obtain ⟨Ix,hhh⟩:=ae ((aF st0 B1).2.2);rw [<-hhh] at FF HFH;have Ll:=ab (fun w' hb=>QBox.openG Au (w1:=w') hb DT.out.2.2.2.1 DT.out.2.1);have HFO:=ab (fun w' (hb:Below w5.heap.size w5 w')=>mm (hf2.below hb));obtain ⟨OT,O8⟩:=ae (eI G1);have HOT:=ab (show OT.length<=1000000 from by rw [O8];exact open_short DT.out.2.2.2.1);rw [<-O8] at Ll HFO;clear Au hf2 hnL2 hnG2 hnB2 hQ hhh O8
    go_upto_region 24 with (fail)
    obtain ⟨B9,F0⟩ : ∃ CC:Array Bool->World->Prop,CC=fun L8 w'=>Below w5.heap.size w5 w':=⟨_,rfl⟩
    obtain ⟨Xrgz,FI,JK,Dd⟩:=Reg.xB;obtain ⟨Ergz,Hrgzst,Ir,Ig,Gz,Hy,GX,Cy,G3,Ie,Ip,Hi,EX,Fi,Bi,Fv,Fw,Fr,EU,Fo,Fa,Fz⟩:=Reg.e20 Xrgz
     (fun xx _=>xx=.pointer (some ⟨gp,0,none⟩))
     (fun xx _=>xx=.agg #[.slice vo2 nL2 vk2,.int .i64 p1.r,.int .i64 p1.c,.bool p1.pd,.bool p1.au,.slice go2 nG2 gk2,.slice bo2 nB2 bk2,.int .i64 ((aA st0 B1).length:Nat)])
     (fun x w'=>∃ v',x=.agg #[v',.int .i64 Q.r,.int .i64 Q.c,.bool Q.pd,.bool Q.au]/\HeldE lineE (fun _=>True) w' v' Q.L)
     (fun xx _=>xx=.bool true)
     (fun xx _=>xx=.bool false)
     (fun xx _=>xx=.bool false)
     (fun xx _=>xx=.pointer (some ⟨gf,0,none⟩))
     (fun xx _=>xx=.int .i64 Ix)
     (fun xx _=>xx=.agg #[.slice vo2 nL2 vk2,.int .i64 p1.r,.int .i64 p1.c,.bool p1.pd,.bool p1.au,.slice go2 nG2 gk2,.slice bo2 nB2 bk2,.int .i64 ((aA st0 B1).length:Nat)])
     (fun xx _=>xx=.int .i64 Ix)
     (fun xx _=>xx=.bool false)
     (fun xx _=>xx=.bool false)
     (fun xx _=>xx=.bool false)
     (fun xx _=>xx=.pointer (some ⟨gf,0,none⟩))
     (fun x w'=>HeldE (aE .i32) (fun _=>True) w' x OT)
     (fun xx _=>xx=.agg #[.slice vo2 nL2 vk2,.int .i64 p1.r,.int .i64 p1.c,.bool p1.pd,.bool p1.au,.slice go2 nG2 gk2,.slice bo2 nB2 bk2,.int .i64 ((aA st0 B1).length:Nat)])
     (fun x w'=>HeldE (aE .i32) (fun _=>True) w' x OT)
     (fun xx _=>xx=.bool true)
     (fun xx _=>xx=.bool false)
     (fun xx _=>xx=.bool false)
     (s2:=fun x w w1 hx h=>by rw [FI] at hx;first | exact HeldE.below h hx | (obtain ⟨v,e,h⟩:=h;exact ⟨v,e,h.below hx⟩))
     (s14:=fun x w w1 hx h=>by rw [FI] at hx;first | exact HeldE.below h hx | (obtain ⟨v,e,h⟩:=h;exact ⟨v,e,h.below hx⟩))
     (s16:=fun x w w1 hx h=>by rw [FI] at hx;first | exact HeldE.below h hx | (obtain ⟨v,e,h⟩:=h;exact ⟨v,e,h.below hx⟩))
    have Ds:Hid (∀ i L w, B9 L w->B9 (L.setIfInBounds i true) w):=ab (by
     intro i L w h;rw [F0] at h ⊢;exact h)
    have D6:Hid (∀ L w w1,B9 L w->Below w.heap.size w w1->B9 L w1):=ab (by
     intro L w w1 h hb;rw [F0] at h ⊢;exact h.trans (hb.mono h.size))
    have Hrgzc:=ab (show B9 (Array.replicate 20 false) w5.drew from by rw [F0];exact (Below.refl _ _).drew);have BH:=ab (fun (i:Nat) L w v (h:B9 L w) (e:Ergz i v w)=>Reg.hk (Ds.out i L w h) e (JK.out w));have A6:=ab F0;have HrgzhX:=ab FI;clear F0 FI
    go_wp2_with fail
    refine Reg.regionF Ergz B9 Xrgz Hrgzst.out (by kernel_rfl) (by kernel_rfl) (by kernel_rfl) Hrgzc.out (fun Frgz AJ=>?_);simp only [Reg.frame,Reg.dsts,List.map_cons,List.map_nil,Mix.put_lit,List.set_cons_succ,List.set_cons_zero,Nat.zero_add,Nat.reduceAdd] at AJ;refine ⟨⟨?_,?_,?_,?_,?_,?_,?_,?_,?_,?_,?_,?_,?_,?_,?_,?_,?_,?_,?_,?_,trivial⟩,?_⟩
    ·intro Lq wq xq hh;simp only [AJ];refine Reg.go rfl ?_;have HK:=BH.out 0 _ _ _ hh.cls ((Ir.out _ _).mpr rfl);go_simp;exact HK.out
    ·intro Lq wq xq hh;simp only [AJ];refine Reg.go rfl ?_;have hc:B9 Lq wq:=hh.cls;rw [A6.out] at hc;have hq:=ES.out.hasAt IR.out.1 hc;have q0:=hq.cell 0 _ rfl;have q1:=hq.cell 1 _ rfl;have q2:=hq.cell 2 _ rfl;have q3:=hq.cell 3 _ rfl;have q4:=hq.cell 4 _ rfl;have q5:=hq.cell 5 _ rfl;have q6:=hq.cell 6 _ rfl;have q7:=hq.cell 7 _ rfl;clear hc;have HK:=BH.out 1 _ _ _ hh.cls ((Ig.out _ _).mpr rfl);go_simp;exact HK.out
    ·intro Lq wq xq hh;simp only [AJ,(Ig.out _ _).mp (hh.v 1)];refine Reg.go rfl ?_;unfold Reg.upon;have hc:B9 Lq wq:=hh.cls;rw [A6.out] at hc;have Ni:=MY.out wq hc;go_simp;refine Ni.mono ?_;rintro e w2 ⟨x,rfl,hx,hb⟩;exact ⟨_,rfl,Ds.out 2 Lq w2  (D6.out Lq wq w2 hh.cls hb),(by rw [Gz.out];exact hx),Dd.out wq w2 hb⟩
    ·intro Lq wq xq hh;have d2:=(Gz.out _ _).mp (hh.v 2);simp only [AJ,(Ir.out _ _).mp (hh.v 0)];refine Reg.go rfl ?_;unfold Reg.upon;have hc:B9 Lq wq:=hh.cls;rw [A6.out] at hc;obtain ⟨v',ev,hv'⟩:=d2;obtain ⟨Yo,hp⟩:=HPN2.out;have I7:=tT BB gp gg gr wd R1 Q.L Q.r Q.c Q.pd Q.au _ v' wq (hp.any.below hc) hv';rw [ev];go_simp;refine I7.mono ?_;rintro e w2 ⟨rfl,hb⟩;exact ⟨_,rfl,Ds.out 3 Lq w2  (D6.out Lq wq w2 hh.cls hb),(by rw [Hy.out]),Dd.out wq w2 hb⟩
    ·intro Lq wq xq hh;simp only [AJ,(Hy.out _ _).mp (hh.v 3)];refine Reg.go rfl ?_;have HK:=BH.out 4 _ _ _ hh.cls ((GX.out _ _).mpr rfl);go_simp;exact HK.out
    ·intro Lq wq xq hh;simp only [AJ,(GX.out _ _).mp (hh.v 4)];refine Reg.go rfl ?_;have HK:=BH.out 5 _ _ _ hh.cls ((Cy.out _ _).mpr rfl);go_simp;exact HK.out
    ·intro Lq wq xq hh;simp only [AJ,(Cy.out _ _).mp (hh.v 5)];refine Reg.go rfl ?_;have HK:=BH.out 6 _ _ _ hh.cls ((G3.out _ _).mpr rfl);go_simp;exact HK.out
    ·intro Lq wq xq hh;simp only [AJ,(Cy.out _ _).mp (hh.v 5),(G3.out _ _).mp (hh.v 6)];refine Reg.go rfl ?_;unfold Reg.upon;have hc:B9 Lq wq:=hh.cls;rw [A6.out] at hc;go_simp;refine (HFH.out wq hc).mono ?_;rintro e w2 ⟨rfl,rfl⟩;exact ⟨_,rfl,Ds.out 7 Lq wq  hh.cls,(by rw [Ie.out];try rfl),JK.out _⟩
    ·intro Lq wq xq hh;simp only [AJ,(Cy.out _ _).mp (hh.v 5)];refine Reg.go rfl ?_;have hc:B9 Lq wq:=hh.cls;rw [A6.out] at hc;have hq:=ES.out.hasAt IR.out.1 hc;have q0:=hq.cell 0 _ rfl;have q1:=hq.cell 1 _ rfl;have q2:=hq.cell 2 _ rfl;have q3:=hq.cell 3 _ rfl;have q4:=hq.cell 4 _ rfl;have q5:=hq.cell 5 _ rfl;have q6:=hq.cell 6 _ rfl;have q7:=hq.cell 7 _ rfl;clear hc;have HK:=BH.out 8 _ _ _ hh.cls ((Ip.out _ _).mpr rfl);go_simp;exact HK.out
    ·intro Lq wq xq hh;simp only [AJ,(Cy.out _ _).mp (hh.v 5),(Ip.out _ _).mp (hh.v 8)];refine Reg.go rfl ?_;unfold Reg.upon;have hc:B9 Lq wq:=hh.cls;rw [A6.out] at hc;go_simp;refine (FF.out wq hc).mono ?_;rintro e w2 ⟨rfl,hb⟩;exact ⟨_,rfl,Ds.out 9 Lq w2  (D6.out Lq wq w2 hh.cls hb),(by rw [Hi.out];try rfl),Dd.out wq w2 hb⟩
    ·intro Lq wq xq hh;simp only [AJ,(Cy.out _ _).mp (hh.v 5),(Ie.out _ _).mp (hh.v 7),(Hi.out _ _).mp (hh.v 9)];refine Reg.go rfl ?_;have hc:B9 Lq wq:=hh.cls;rw [A6.out] at hc;have q1:(Ix != Ix)=false:=by simp
     clear hc;have HK:=BH.out 10 _ _ _ hh.cls ((EX.out _ _).mpr rfl);go_simp;exact HK.out
    ·intro Lq wq xq hh;simp only [AJ,(Cy.out _ _).mp (hh.v 5),(EX.out _ _).mp (hh.v 10)];refine Reg.go rfl ?_;have HK:=BH.out 11 _ _ _ hh.cls ((Fi.out _ _).mpr rfl);go_simp;exact HK.out
    ·intro Lq wq xq hh;simp only [AJ,(Fi.out _ _).mp (hh.v 11)];refine Reg.go rfl ?_;have HK:=BH.out 12 _ _ _ hh.cls ((Bi.out _ _).mpr rfl);go_simp;exact HK.out
    ·intro Lq wq xq hh;simp only [AJ,(Bi.out _ _).mp (hh.v 12)];refine Reg.go rfl ?_;have HK:=BH.out 13 _ _ _ hh.cls ((Fv.out _ _).mpr rfl);go_simp;exact HK.out
    ·intro Lq wq xq hh;simp only [AJ,(Bi.out _ _).mp (hh.v 12),(Fv.out _ _).mp (hh.v 13)];refine Reg.go rfl ?_;unfold Reg.upon;have hc:B9 Lq wq:=hh.cls;rw [A6.out] at hc;have Ni:=HFO.out wq hc;go_simp;refine Ni.mono ?_;rintro e w2 ⟨x,rfl,hx,hb⟩;exact ⟨_,rfl,Ds.out 14 Lq w2  (D6.out Lq wq w2 hh.cls hb),(by rw [Fw.out];exact hx.zone fun _ _ _=>trivial),Dd.out wq w2 hb⟩
    ·intro Lq wq xq hh;simp only [AJ,(Bi.out _ _).mp (hh.v 12)];refine Reg.go rfl ?_;have hc:B9 Lq wq:=hh.cls;rw [A6.out] at hc;have hq:=ES.out.hasAt IR.out.1 hc;have q0:=hq.cell 0 _ rfl;have q1:=hq.cell 1 _ rfl;have q2:=hq.cell 2 _ rfl;have q3:=hq.cell 3 _ rfl;have q4:=hq.cell 4 _ rfl;have q5:=hq.cell 5 _ rfl;have q6:=hq.cell 6 _ rfl;have q7:=hq.cell 7 _ rfl;clear hc;have HK:=BH.out 15 _ _ _ hh.cls ((Fr.out _ _).mpr rfl);go_simp;exact HK.out
    ·intro Lq wq xq hh;simp only [AJ,(Bi.out _ _).mp (hh.v 12),(Fr.out _ _).mp (hh.v 15)];refine Reg.go rfl ?_;unfold Reg.upon;have hc:B9 Lq wq:=hh.cls;rw [A6.out] at hc;have Ni:=Ll.out wq hc;go_simp;refine Ni.mono ?_;rintro e w2 ⟨x,rfl,hx,hb⟩;exact ⟨_,rfl,Ds.out 16 Lq w2  (D6.out Lq wq w2 hh.cls hb),(by rw [EU.out];exact hx),Dd.out wq w2 hb⟩
    ·intro Lq wq xq hh;have d14:=(Fw.out _ _).mp (hh.v 14);have d16:=(EU.out _ _).mp (hh.v 16);simp only [AJ,(Bi.out _ _).mp (hh.v 12)];refine Reg.go rfl ?_;unfold Reg.upon;have hc:B9 Lq wq:=hh.cls;rw [A6.out] at hc;have hsm:=ly _ _ OT OT wq d14.ints d16.ints (by have:=HOT.out;omega);rw [lx] at hsm;go_simp;refine hsm.mono ?_;rintro e w2 ⟨rfl,hb⟩;exact ⟨_,rfl,Ds.out 17 Lq w2  (D6.out Lq wq w2 hh.cls hb),(by rw [Fo.out]),Dd.out wq w2 hb⟩
    ·intro Lq wq xq hh;simp only [AJ,(Bi.out _ _).mp (hh.v 12),(Fo.out _ _).mp (hh.v 17)];refine Reg.go rfl ?_;have HK:=BH.out 18 _ _ _ hh.cls ((Fa.out _ _).mpr rfl);go_simp;exact HK.out
    ·intro Lq wq xq hh;simp only [AJ,(Bi.out _ _).mp (hh.v 12),(Fa.out _ _).mp (hh.v 18)];refine Reg.go rfl ?_;have HK:=BH.out 19 _ _ _ hh.cls ((Fz.out _ _).mpr rfl);go_simp;exact HK.out
    intro xq wrgz F8 hvrgz;rw [A6.out] at F8;simp only [AJ];have vrgz19:=(Fz.out _ _).mp (hvrgz 19 (by decide));rw [vrgz19];clear hvrgz AJ BH Ds JK Hrgzst Hrgzc A6 HrgzhX D6 Dd Ir Ig Gz Hy GX Cy G3 Ie Ip Hi EX Fi Bi Fv Fw Fr EU Fo Fa Fz;have HZQ:=ab (ES.out.below IR.out.1 F8);have HZF:=ab (IR.out.below F8);have HZB:=ab (Jg.out.trans (F8.mono Jg.out.size));clear F8;go_wp2
    go_roundw
    case rel=>exact ⟨i+1,R1,p1,G1,B1,op1,_,_,_,by omega,by go_num,HZF.out,HZQ.out,HZB.out,DT.out.1,DT.out.2.1,DT.out.2.2.1,AL.out.1,AL.out.2⟩
    case measure=>simp [intOf] <;> omega
  ·obtain rfl:i=m:=by omega
   go_wp2;go_ret;exact ⟨af,HB.out⟩
theorem acts_arg{H:Type}{enc:TypeId × Value->H}{W:World}{base:Nat}{v:Value}{d:DataW H}{p:List MemPlace}(hv:Value.okWide Tryz.prog W .any base 61 v)(h:DataW.Trod enc Tryz.prog W 0 (fun _=>true) true 61 v d p):∃ L,HeldE actE (fun _=>True) W v L/\∀ x ∈ L,∀ y ∈ x.2.1,0<=y/\y<=255:=by
 obtain ⟨L,hL,Bq⟩:=sU (E:=actE) Tryz.underlying61 (by kernel_rfl) (by decide) (n7 Tryz.underlying68 (by kernel_rfl) rfl rfl rfl (jV (k:=.i64) Tryz.underlying3 (by kernel_rfl)) (ks Tryz.underlying55 (by kernel_rfl) (by decide) (jV (k:=.u8) Tryz.underlying5 (by kernel_rfl))) (jV (k:=.i32) Tryz.underlying21 (by kernel_rfl))) hv h;refine ⟨L,hL.zone (fun _ _ _=>trivial),fun x hx y hy=>?_⟩;have:=bounds_u8 ((Bq x hx).2.1 y hy);omega
theorem walk{H:Type}{enc:TypeId × Value->H}(W:World)(a:Int)(_:(Lit.int .i64 a).wf=true)(b:Int)(_:(Lit.int .i64 b).wf=true)(u:Value){base:Nat}{d:DataW H}{p:List MemPlace}(hv:Value.okWide Tryz.prog W .any base 61 u)(h:DataW.Trod enc Tryz.prog W 0 (fun _=>true) true 61 u d p)(_:laidMetH Tryz.prog Rows.feedPlaysRow.laid W):Calls Tryz.prog 5 #[.int .i64 a,.int .i64 b,u] W (Yes W):=by
 obtain ⟨A,hA,Bq⟩:=acts_arg hv h;exact walkH W a b u A _ hA Bq
theorem door_met(os:Os):laidMetH Tryz.prog Rows.feedPlaysRow.laid ((World.doorLaid Tryz.prog 400 os).forCall (fun _ _=>0) ⟨#[],#[.int .i64 0,.int .i64 0,.slice none 0 0],[]⟩).memory :=
 laidMetH_of_parts3 (fuel:=8) (laidMet_of_run' 8 (by kernel_rfl) (by kernel_rfl)) (by kernel_rfl) (by kernel_rfl)
theorem lifted(os:Os)(started:os.Started)(H:Type)(enc:TypeId × Value->H) :
  ReturnsInHanded {} Tryz.checked os 5 .any (fun w args=>(Rows.feedPlaysSpec.pre enc Tryz.prog Tryz.f5 [] false w args/\laidMetH Tryz.prog Rows.feedPlaysRow.laid w)/\sizedMet enc Tryz.prog Tryz.f5 (OpenSpec.ofChange Rows.feedPlaysSpec) false w args)
   (Rows.feedPlaysSpec.post enc Tryz.prog Tryz.f5 false true false false):=by
 refine sT (C:=Tryz.checked) (tb:=4) (by kernel_rfl) started (by kernel_rfl) Tryz.func5 (by kernel_rfl) (by kernel_rfl) Tryz.underlying4 rfl
  (by rw [Tryz.params5];intro t ht;simp at ht;rcases ht with rfl | rfl <;> exact ⟨by kernel_rfl,of_decide_eq_true (by kernel_rfl)⟩)
  (by rw [Tryz.params5];intro ds hd;match ds,hd with | [_,_,_],_=>rfl)
  (ChangeSpec.witness_shaped (enc:=enc) (C:=Tryz.checked) (os:=os) (X:=fun w _=>laidMetH Tryz.prog Rows.feedPlaysRow.laid w) false (World.doorLaid Tryz.prog 400 os) #[.int .i64 0,.int .i64 0,.slice none 0 0] 8 rfl (World.shaped_of_RefB (by kernel_rfl) (by kernel_rfl)) (by kernel_rfl) (by kernel_rfl) (by kernel_rfl) (door_met os)) ?_
 intro W base args ds before hval hA hsz hL;rw [Tryz.params5] at hA hval;obtain ⟨v0,vs0,d0,ds0,p0,q0,hargs,rfl,rfl,h0,r0⟩:=trodAll_cons hA;obtain ⟨v1,vs1,d1,ds1,p1,q1,rfl,rfl,rfl,h1,r1⟩:=trodAll_cons r0;obtain ⟨v2,vs2,d2,ds2,p2,q2,rfl,rfl,rfl,h2,r2⟩:=trodAll_cons r1;obtain ⟨rfl,rfl,rfl⟩:=trodAll_nil r2;obtain rfl:args=#[v0,v1,v2]:=by cases args;simp_all
 obtain ⟨x0,rfl,rfl,rfl,wx0⟩:=open_int Tryz.underlying3 (hval 0 3 v0 rfl rfl) h0;obtain ⟨x1,rfl,rfl,rfl,wx1⟩:=open_int Tryz.underlying3 (hval 1 3 v1 rfl rfl) h1;exact walk W x0 wx0 x1 wx1 v2 (hval 2 61 v2 rfl rfl) h2 hL
theorem and_two{a b:Bool}(ha:a=true)(hb:b=true):(a && b)=true:=by rw [ha,hb];rfl
theorem joined:joinedFacts Tryz.pinned.checked.prog 5 Tryz.f5 Rows.feedPlaysSpec Rows.feedPlaysRow=true:=by
 unfold joinedFacts
 repeat' (with_reducible refine and_two ?_ ?_)
 all_goals (as_aux_lemma=>kernel_rfl)
theorem said:Rows.FeedPlaysSaid :=
 OpenClaim.holds_of_wide 5 Tryz.f5 rfl rfl rfl rfl rfl rfl rfl ⟨rfl,rfl,rfl,rfl,rfl⟩ rfl rfl rfl rfl rfl (by kernel_rfl) Tryz.func5 joined
  (of_decide_eq_true (by kernel_rfl)) (by unfold Func.isWrapper;first | (rw [if_pos (by decide +kernel)];kernel_rfl) | (rw [if_neg (by decide +kernel)];exact ⟨rfl,rfl⟩))
  (fun os started H enc _=>lifted os started H enc)
theorem plain (f : FuncId) (fn : Func) (hf : Tryz.pinned.checked.prog.funcNamed "linotype/linotypelaw37.FeedPlays" = some f) (hfn : Tryz.pinned.checked.prog.funcs[f]? = some fn) :
  true=Tryz.pinned.checked.prog.looks []/\∀ (j:Nat) t,fn.params[j]? = some t->Tryz.pinned.checked.prog.wantsStandIn t=false:=by
 obtain rfl : f = 5 := Option.some.inj ((show Tryz.prog.funcNamed "linotype/linotypelaw37.FeedPlays" = some 5 by kernel_rfl).symm.trans hf) |>.symm
 obtain rfl:fn=Tryz.f5:=(Option.some.inj (Tryz.func5.symm.trans hfn)).symm;refine ⟨by kernel_rfl,fun j t ht=>?_⟩;rw [Tryz.params5] at ht;have hm:t ∈ [3,3,61]:=by simpa using Array.mem_of_getElem? ht
 have hall:([3,3,61].all fun u=>!Tryz.prog.wantsStandIn u)=true:=by kernel_rfl
 exact (show Tryz.prog.wantsStandIn t=false by simpa using List.all_eq_true.1 hall t hm)
theorem card:Rows.FeedPlaysCardSaid :=
 Claim7.holds_tied_plain_at .later [] _ _ _ _ said (fun _ h=>by cases h) (by kernel_rfl) (fun _ h=>by cases h) feedPlays_row_tie rfl ⟨rfl,rfl⟩ (by kernel_rfl) rfl plain (by kernel_rfl)
#print axioms card
end Go.Proofs.YtoeggiplcaegoaaGreatDoor.lawFeedPlays
