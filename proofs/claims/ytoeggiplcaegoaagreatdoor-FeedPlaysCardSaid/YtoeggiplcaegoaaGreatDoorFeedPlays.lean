import Derived.Test.YtoeggiplcaegoaaGreatDoorZ0
import Derived.Test.YtoeggiplcaegoaaGreatDoorMg8
import Derived.Test.YtoeggiplcaegoaaGreatDoorMg1
import Derived.Test.YtoeggiplcaegoaaGreatDoorMg2
import Derived.Test.YtoeggiplcaegoaaGreatDoorCards
import Derived.Test.YtoeggiplcaegoaaGreatDoorTie
import Derived.ProofKit
import Derived.Lib.MinMax
import Derived.Deep.CutBlock
set_option maxRecDepth 100000
set_option maxHeartbeats 16000000
namespace Go.Proofs.YtoeggiplcaegoaaGreatDoor.lawFeedPlays
open Go.ChangeShapes Go.WideShapes Go.ChangeAt Go.RowKit
abbrev Act3:=Int × List Int × Int
def actE:Elem Act3:=prE (aE .i64) (prE (slE (aE .u8)) (aE .i32))
abbrev za:Act3:=(0,[],0)
theorem acts_at{Z:an}{w:World}{ao:Option Addr}{n cap:Nat}{L:List Act3}(h:HeldE actE Z w (.slice ao n cap) L):n=L.length/\n<=cap/\∀ i,i<L.length->∃ b off tv,ao=some ⟨b,off,none⟩/\b<w.heap.size /\
  w.cell? ⟨b,off+i * 3,none⟩=some (.int .i64 (L.getD i za).1)/\w.cell? ⟨b,off+i * 3+1,none⟩=some tv/\w.cell? ⟨b,off+i * 3+2,none⟩=some (.int .i32 (L.getD i za).2.2)/\HeldE (aE .u8) Z w tv (L.getD i za).2.1:=by
 obtain ⟨h1,h2,h3⟩:=h.spots;refine ⟨h1,h2,fun i hi=>?_⟩;obtain ⟨b,off,rfl,hb,hz,C,hC,hr⟩:=h3 i hi;obtain ⟨C1,C2,rfl,rfl,C3,C4,rfl,⟨tv,rfl,ht⟩,rfl⟩:=hr;exact ⟨b,off,tv,rfl,hb,hC 0 (by decide),hC 1 (by decide),hC 2 (by decide),ht⟩
theorem in_of{L:List Int}(h:∀ y ∈ L,0<=y/\y<=255):inBytes L:=fun i hi=>h _ (by rw [List.getD,List.getElem?_eq_getElem hi];exact List.getElem_mem hi)
theorem qbox_new{Xo:an}{w w1:World}{B gp gg gr wd gf:Nat}{R:List Rw}{p:Pn}{v:Value}(hF:FAt Xo w B gp gg gr wd gf R p [] st0 none)(hb:Below w.heap.size w w1)(hv:HeldE lineE (fun x=>w.heap.size+1<=x) w1 v p.L) :
  QBox (w1.alloc (.cells [v,.int .i64 p.r,.int .i64 p.c,.bool p.pd,.bool p.au,.slice none 0 0,.slice none 0 0,.int .i64 0].toArray 66)) gp gr gf w1.heap.size R none p [] [] v (.slice none 0 0) (.slice none 0 0):=by
 have hn:=Has.new w1 [v,.int .i64 p.r,.int .i64 p.c,.bool p.pd,.bool p.au,.slice none 0 0,.slice none 0 0,.int .i64 0] 66;have B7:=zI w1 (.cells [v,.int .i64 p.r,.int .i64 p.c,.bool p.pd,.bool p.au,.slice none 0 0,.slice none 0 0,.int .i64 0].toArray 66);refine ⟨hn,?_,HeldE.nil _ _ _,HeldE.nil _ _ _⟩;have h2:=(hv.zone (Y:=fun x=>w.heap.size+1<=x/\x<w1.heap.size) fun x hx hz=>⟨hz,hx⟩).below B7;exact h2.zone fun x hx hz=>⟨iX hF (by omega) hx,by omega⟩
theorem open_short{G:List Int}(h:G.length<=1000000):(eI G).length<=1000000:=by
 unfold eI
 split
 ·unfold eB clN;rw [List.length_map,List.length_take];omega
 ·simp
theorem walkH(W:World)(a b:Int)(va:Value)(A:List Act3)(Z:an)(hb:HeldE actE Z W va A)(Bn:∀ x ∈ A,∀ y ∈ x.2.1,0<=y/\y<=255):Calls Tryz.prog 5 #[.int .i64 a,.int .i64 b,va] W (Yes W):=by
 obtain ⟨ao,ca,rfl⟩:=hb.len;have Ly:=hb.max;obtain ⟨_,Bh,hc⟩:=acts_at hb;obtain ⟨m,hm⟩:=ae (A.length);have II:=ab (show ∀ i,i<m->inBytes (A.getD i za).2.1 from fun i hi=>in_of (Bn _ (by rw [hm] at hi;rw [List.getD,List.getElem?_eq_getElem hi];exact List.getElem_mem hi)));rw [<-hm] at hc Ly Bh ⊢;have HC:=ab hc;clear hb hc hm Bn
 by_cases h2:40<m
 ·have hd60:decide ((40:Int)<m)=true:=ah (by omega)
  go_enter Tryz.func5,Tryz.ntmps5
  go_wp2_with fail
  refine (gG _).mono ?_;rintro e w1 ⟨rfl,b1⟩
  go_wp2_with fail
  refine (gG _).mono ?_;rintro e w2 ⟨rfl,b2⟩;have B:=b1.trans (b2.mono b1.size);go_wp2;go_ret;exact ⟨af,B⟩
 have hd60:decide ((40:Int)<m)=false:=ai (by omega);obtain ⟨y,hy⟩:=ae (IntKind.u64.wrap a);have CF:0<=y/\y<=18446744073709551615:=by rw [hy,IntKind.wrap_u64];omega
 obtain ⟨c,hc⟩ : ∃ c:Nat,y % 9=(c:Int):=⟨(y % 9).toNat,by omega⟩;have KT:c<9:=by omega
 have hy':IntKind.u64.wrap a=y:=hy.symm;have Jf:y.tmod 9=(c:Int):=by rw [Int.tmod_eq_emod_of_nonneg CF.1];exact hc
 have hwc:IntKind.i64.wrap (c:Int)=(c:Int):=by rw [IntKind.wrap_i64];omega
 obtain ⟨wd,hwd⟩ : ∃ wd:Nat,IntKind.i64.wrap (1+(c:Int))=(wd:Int)/\1<=wd/\wd<=9:=⟨1+c,by rw [IntKind.wrap_i64];omega,by omega,by omega⟩;obtain ⟨Ou,Ce,On⟩:=hwd;clear hy CF hc KT;obtain ⟨y2,hy⟩:=ae (IntKind.u64.wrap b);have CF:0<=y2/\y2<=18446744073709551615:=by rw [hy,IntKind.wrap_u64];omega
 obtain ⟨d,hc⟩ : ∃ d:Nat,y2 % 5=(d:Int):=⟨(y2 % 5).toNat,by omega⟩;have KT:d<5:=by omega
 have hy2':IntKind.u64.wrap b=y2:=hy.symm;have hct2:y2.tmod 5=(d:Int):=by rw [Int.tmod_eq_emod_of_nonneg CF.1];exact hc
 have hwc2:IntKind.i64.wrap (d:Int)=(d:Int):=by rw [IntKind.wrap_i64];omega
 obtain ⟨ht,Mt⟩ : ∃ ht:Nat,IntKind.i64.wrap (1+(d:Int))=(ht:Int)/\1<=ht/\ht<=5:=⟨1+d,by rw [IntKind.wrap_i64];omega,by omega,by omega⟩;obtain ⟨hww2,DV,hh5⟩:=Mt;clear hy CF hc KT
 go_enter Tryz.func5,Tryz.ntmps5
 go_wp2_with fail
 refine (gG _).mono ?_;rintro e w1 ⟨rfl,b1⟩;have FF:=pw (wd:Int) (ht:Int) w1;rw [show da (wd:Int)=wd from by unfold da;omega,show da (ht:Int)=ht from by unfold da;omega] at FF
 go_wp2_with fail
 refine FF.mono ?_;rintro e w2 ⟨gp,gg,gr,R0,rfl,Kw,b2⟩;obtain ⟨P0,Kl⟩ : ∃ P0:Pn,P0=⟨List.replicate ht (List.replicate wd zc,false),0,0,false,true⟩:=⟨_,rfl⟩;have hfn:=oB (p:=P0) (by rw [Kl];exact Kw)
 go_wp2_with fail
 refine hfn.mono ?_;rintro e w3 ⟨gf,rfl,PH,hf3,b3⟩;have J3:=tS wd ht (by omega) (by omega) w3
 go_wp2_with fail
 refine J3.mono ?_;rintro e w4 ⟨v4,rfl,hv4,b4⟩;have hv4:HeldE lineE (fun x=>w3.heap.size+1<=x) w4 v4 P0.L:=by rw [Kl];exact hv4
 obtain ⟨o4,k4,ev⟩:=hv4.len;obtain ⟨n0,Du⟩:=ae (P0.L.length);rw [<-Du] at ev;subst ev;have N7:=qbox_new hf3 b4 hv4;have DN:=ab (show eJ wd ht from ⟨by omega,by omega,by omega,by omega⟩);have HPN0:=ab (show PnOk wd ht P0 from by
  rw [Kl];refine ⟨by rw [List.length_replicate],fun i hi=>?_⟩;rw [List.length_replicate] at hi
  simp [List.getD,List.getElem?_replicate,hi])
 rw [show P0.r=0 from by rw [Kl],show P0.c=0 from by rw [Kl],show P0.pd=false from by rw [Kl],show P0.au=true from by rw [Kl]] at N7;obtain ⟨gb,hgb⟩:=ae (w4.heap.size);obtain ⟨BB,Oe⟩:=ae (w1.heap.size);obtain ⟨W5,AK⟩:=ae (w4.alloc (.cells [Value.slice o4 n0 k4,.int .i64 0,.int .i64 0,.bool false,.bool true,.slice none 0 0,.slice none 0 0,.int .i64 0].toArray 66));have B7:Below w4.heap.size w4 W5:=by rw [AK];exact zI w4 _
 rw [<-AK,<-hgb] at N7;have O9:=ab N7;have Mn:=ab (show W.heap.size<=BB from by rw [Oe];exact b1.size);have NL:=ab (show FOn (fun _=>True) BB W5 gp gg gr wd gf R0 P0 [] st0 none from by
  rw [Oe];exact ⟨(hf3.below b4).below B7,Nat.le_trans b2.size PH,(fun g e=>by cases e),Nat.le_trans b2.size (Nat.le_trans b3.size (Nat.le_trans b4.size B7.size))⟩)
 have KV:=ab (((b1.trans (b2.mono b1.size)).trans (b3.mono (Nat.le_trans b1.size b2.size))).trans ((b4.mono (Nat.le_trans b1.size (Nat.le_trans b2.size b3.size))).trans (B7.mono (Nat.le_trans b1.size (Nat.le_trans b2.size (Nat.le_trans b3.size b4.size))))));have HBG:=ab (show BB<=gb from by rw [Oe,hgb];exact Nat.le_trans b2.size (Nat.le_trans b3.size b4.size));have CI:=ab (show W.heap.size<=gb from Nat.le_trans Mn.out HBG.out);have N4:=ab (show ∀ x,x<W.heap.size->¬ BB<=x from fun x hx e=>by have:=Mn.out;omega);have hW5':W5=w4.alloc (.cells #[Value.slice o4 n0 k4,.int .i64 0,.int .i64 0,.bool false,.bool true,.slice none 0 0,.slice none 0 0,.int .i64 0] 66):=AK;have IR:=ab Du;have Pe:=ab (show P0.r=0/\P0.c=0/\P0.pd=false/\P0.au=true from by rw [Kl];exact ⟨rfl,rfl,rfl,rfl⟩);clear N7 B7 AK Oe hv4 hf3 PH Kw b1 b2 b3 b4 FF hfn J3 Kl Du
 go_upto_region 7 with (fail)
 rw [<-hW5',<-hgb];clear hW5' hgb;go_wp2
 go_loopw [10] (fun iv wr=>∃ (i:Nat) (R:List Rw) (p:Pn) (G bs:List Int) (op:Option Nat) (v gv bv:Value),i<=m/\iv=.int .i64 i/\FOn (fun _=>True) BB wr gp gg gr wd gf R p G (aF st0 bs) op/\QBox wr gp gr gf gb R op p G bs v gv bv/\Below W.heap.size W wr/\PnOk wd ht p/\AllV G/\inBytes bs/\G.length<=121 * i/\bs.length<=60 * i) (fun iv _=>m - (intOf iv).toNat)
 case atStart=>exact ⟨0,R0,P0,[],[],none,_,_,_,Nat.zero_le _,rfl,NL.out,O9.out,KV.out,HPN0.out,AllV.nil,xb,Nat.zero_le _,Nat.zero_le _⟩
 case round =>
  obtain ⟨i,R,p,G,bs,op,v,gv,bv,hi,rfl,hf,hq,zN,FF,hG,PF,Dp,hl2⟩:=hrel;obtain ⟨wq,DT⟩:=ae (wr);subst DT;have HB:=ab zN
  by_cases hlt:i<m
  ·obtain ⟨vo,vk,rfl⟩:=hq.2.1.len;obtain ⟨go1,gk,rfl⟩:=hq.2.2.1.len;obtain ⟨bo,bk,rfl⟩:=hq.2.2.2.len;obtain ⟨nL,CM⟩:=ae (p.L.length);obtain ⟨nG,CH⟩:=ae (G.length);obtain ⟨nB,CJ⟩:=ae (bs.length);rw [<-CM,<-CH,<-CJ] at hq;have HF:=ab hf;have HQ:=ab hq;have Jl:=ab FF;have NQ:=ab hG;have KJ:=ab PF;have HL:=ab (show G.length<=121 * 40/\bs.length<=60 * 40/\G.length<=121 * i/\bs.length<=60 * i from ⟨by omega,by omega,Dp,hl2⟩);clear hf hq FF hG PF Dp hl2 CM CH CJ O9 NL KV HPN0 IR Pe;obtain ⟨b,off,tv,rfl,BY,c0,c1,c2,Dw⟩:=HC.out i hlt;obtain ⟨⟨K,T,X⟩,hS⟩ : ∃ y,y=A.getD i za:=⟨_,rfl⟩;have Bc:=II.out i hlt;rw [<-hS] at c0 c2 Dw Bc;simp only at c0 c2 Dw Bc;obtain ⟨ta,tc,rfl⟩:=Dw.len;obtain ⟨tn,EM⟩:=ae (T.length);rw [<-EM] at c1 Dw;have Of:=ab Bc;have EO:=ab c1;have I3:=ab c2;have Kz:=ab BY;have bw:=zN;have hbs0:b<wq.heap.size:=Nat.lt_of_lt_of_le BY bw.size;have c0:=(bw.cell (p:=⟨b,off+i * 3,none⟩) BY).trans c0;have c1:=(bw.cell (p:=⟨b,off+i * 3+1,none⟩) BY).trans c1;have c2:=(bw.cell (p:=⟨b,off+i * 3+2,none⟩) BY).trans c2;have HT:=ab ((Dw.zone (Y:=fun x=>x<W.heap.size) (fun x hx _=>hx)).below bw);have HTN0:=ab EM;clear bw Dw hS BY EM Bc zN
   by_cases h60:60<tn
   ·have hd61:decide ((60:Int)<tn)=true:=ah (by omega);go_wp2;go_ret;exact ⟨af,HB.out⟩
   have hd61:decide ((60:Int)<tn)=false:=ai (by omega);have Jb:=ab (show T.length<=60 from by have:=HTN0.out;omega);clear HTN0
   go_upto_block 2 with fail
   go_cut [] from 55 to 97 (fun wx=>∃ (R1:List Rw) (p1:Pn) (G1 B1:List Int) (op1:Option Nat) (v gv bv:Value),FOn (fun _=>True) BB wx gp gg gr wd gf R1 p1 G1 (aF st0 B1) op1/\QBox wx gp gr gf gb R1 op1 p1 G1 B1 v gv bv/\Below W.heap.size W wx/\(PnOk wd ht p1/\AllV G1/\inBytes B1/\G1.length<=1000000/\B1.length<=1000000)/\G1.length<=121 * (i+1)/\B1.length<=60 * (i+1))
   case first =>
    by_cases DW:K=0
    ·
     have k0:(K == 0)=true:=by rw [beq_iff_eq];omega
     have DU:=ab (fV BB gp gg gr wd gf R p G (aF st0 bs) op (.slice ta tn tc) T wq HF.out.1 (xd KJ.out) (HT.out.zone (fun x _ hx e=>N4.out x hx (rE HF.out x e))) Of.out)
     go_wp2_with fail
     refine DU.out.mono ?_;rintro e w1 ⟨rfl,kg⟩;obtain ⟨R1,op1,f1,u1,b1,rf1,AA⟩:=HF.out.go kg;have q1:=HQ.out.go HF.out.1 u1 rf1 AA;have bw1:=HB.out.trans (b1.mono Mn.out);have Li:=HT.out.upd u1 (fun x hx e=>N4.out x hx (rE HF.out x e));have hc1:=Li.zone (Y:=fun x=>¬ FW w1 gp gr gf R1 op1 x/\x≠gb) (fun x _ hx=>⟨fun e=>N4.out x hx (rE f1 x e),fun e=>N4.out x hx (by rw [e];exact HBG.out)⟩);have Cd:=fun w' hb=>q1.bytes (w1:=w') hb hc1 (by have:=HL.out.1;omega) (by have:=HL.out.2;have:=Jb.out;omega) KJ.out Of.out
     obtain ⟨p1,DK⟩:=ae (p);obtain ⟨G1,Er⟩:=ae (G++aA (aF st0 bs) T);obtain ⟨B1,DO⟩:=ae (bs++T);have AL:=ab (show G1.length<=121 * (i+1)/\B1.length<=60 * (i+1) from by
      have h1:=iT (aF st0 bs) T;have h2:=HL.out;have h3:=Jb.out;rw [Er,DO,List.length_append,List.length_append];omega)
     have DR:=ab (show PnOk wd ht p1/\AllV G1/\inBytes B1/\G1.length<=1000000/\B1.length<=1000000 from ⟨by rw [DK];exact Jl.out,by rw [Er];exact NQ.out.app (AllV.told KJ.out Of.out),by rw [DO];exact y9 KJ.out Of.out,by have:=AL.out;omega,by have:=AL.out;omega⟩);rw [<-iC] at f1;rw [<-Er,<-DO] at f1 Cd;rw [show FOn (fun _=>True) BB w1 gp gg gr wd gf R1 p G1 (aF st0 B1) op1=FOn (fun _=>True) BB w1 gp gg gr wd gf R1 p1 G1 (aF st0 B1) op1 from by rw [DK]] at f1;have Cd:∀ w' (_:Below w1.heap.size w1 w'),Calls Tryz.prog 33 #[.agg #[.slice vo nL vk,.int .i64 p.r,.int .i64 p.c,.bool p.pd,.bool p.au,.slice go1 nG gk,.slice bo nB bk,.int .i64 ((aA st0 bs).length:Nat)],.slice ta tn tc] w' (fun e w2=>∃ x,e=.returned x/\RQ w1 gp gr gf gb R1 op1 p1 G1 B1 x w2/\Below w'.heap.size w' w2):=by rw [DK];exact Cd
     have Jq:=ab Cd;clear Cd hc1 Li Er DO DK;have Q1:=ab q1;have F1:=ab f1;have JE:=ab bw1;clear q1 f1 bw1 u1 b1 rf1 AA kg;clear DU;obtain ⟨A1,Cs⟩ : ∃ CC:Array Bool->Value->World->Prop,CC=fun L8 x w'=>Below W.heap.size W w'/\(Mix.one L8 7=0->Below w1.heap.size w1 w')/\(Mix.one L8 6=1->Mix.one L8 7=0->RQ w1 gp gr gf gb R1 op1 p1 G1 B1 x w')/\(Mix.one L8 7=1->∃ v' gv' bv',QBox w' gp gr gf gb R1 op1 p1 G1 B1 v' gv' bv'/\FAt (fun _=>True) w' BB gp gg gr wd gf R1 p1 G1 (aF st0 B1) op1):=⟨_,rfl⟩
     obtain ⟨EX,BX,F8,DB⟩:=Reg.xT;obtain ⟨Hv,Eh,C5,CU,Dd,C7,Dg,CW,C9,DC⟩:=Reg.e8 EX
      (fun xx _=>xx=.agg #[.slice vo nL vk,.int .i64 p.r,.int .i64 p.c,.bool p.pd,.bool p.au,.slice go1 nG gk,.slice bo nB bk,.int .i64 ((aA st0 bs).length:Nat)])
      (fun xx _=>xx=.slice (some ⟨b,off,none⟩) m ca)
      (fun xx _=>xx=.int .i64 i)
      (fun xx _=>xx=.pointer (some ⟨b,off+i * 3,none⟩))
      (fun xx _=>xx=.pointer (some ⟨b,off+i * 3+1,none⟩))
      (fun xx _=>xx=.slice ta tn tc)
      (fun x w'=>True)
      (fun xx _=>xx=undef)
      (s6:=fun x w w1 hx h=>by rw [BX] at hx;exact h)
     have Ds:Hid (∀ i L {x:Value} w,(i == 6 || i == 7)=false ->  A1 L x w->A1 (L.setIfInBounds i true) x w):=ab (by
      intro i L x w q h;simp only [Bool.or_eq_false_iff,beq_eq_false_iff_ne] at q;rw [Cs] at h ⊢;simp only [Mix.one_ne q.1,Mix.one_ne q.2];exact h)
     have EQ:Hid (∀ L {x:Value} w w1,A1 L x w->Below w.heap.size w w1->A1 L x w1):=ab (by
      intro L x w w1 h hb;rw [Cs] at h ⊢
      (obtain ⟨q1,q2,q3,q4⟩:=h;exact ⟨q1.trans (hb.mono q1.size),fun e=>(q2 e).trans (hb.mono (q2 e).size),fun e f=>(q3 e f).below (q2 f).size hb,fun e=>by obtain ⟨a1,a2,a3,h1,h2⟩:=q4 e;exact ⟨a1,a2,a3,h1.below h2 hb,h2.below hb⟩⟩))
     have FJ:=ab (show ∀ x,A1 (Array.replicate 8 false) x w1.drew from fun x=>by rw [Cs];exact ⟨JE.out.trans ((Below.refl w1.heap.size w1).drew.mono JE.out.size),fun _=>(Below.refl _ _).drew,fun e=>absurd e (by decide),fun e=>absurd e (by decide)⟩);have A9:=ab (fun (i:Nat) L {x:Value} w v q (h:A1 L x w) (e:Hv i v w)=>Reg.hk (Ds.out i L w q h) e (F8.out w));have Ay:=ab Cs;have Df:=ab BX;clear Cs BX
     go_wp2_with fail
     refine RegC.regionF 6 Hv A1 EX Eh.out (by kernel_rfl) (by kernel_rfl) (by kernel_rfl) FJ.out (fun Frgb Aw=>?_);simp only [Reg.frame,Reg.dsts,List.map_cons,List.map_nil,Mix.put_lit,Reg.put_none,List.set_cons_succ,List.set_cons_zero,Nat.zero_add,Nat.reduceAdd] at Aw;refine ⟨⟨?_,?_,?_,?_,?_,?_,?_,?_,trivial⟩,?_⟩
     ·intro Lq wq xq hh;simp only [Aw];refine Reg.go rfl ?_;have hc:A1 Lq (xq 6) wq:=hh.cls;rw [Ay.out] at hc;have hq:=Q1.out.hasAt F1.out.1 (hc.2.1 (Mix.one_un (hh.notYet 7 (by kernel_rfl))));have q0:=hq.cell 0 _ rfl;have q1:=hq.cell 1 _ rfl;have q2:=hq.cell 2 _ rfl;have q3:=hq.cell 3 _ rfl;have q4:=hq.cell 4 _ rfl;have q5:=hq.cell 5 _ rfl;have q6:=hq.cell 6 _ rfl;have q7:=hq.cell 7 _ rfl;clear hc;have HK:=A9.out 0 _ _ _ rfl hh.cls ((C5.out _ _).mpr rfl);go_simp;exact HK.out
     ·intro Lq wq xq hh;simp only [Aw];refine Reg.go rfl ?_;have HK:=A9.out 1 _ _ _ rfl hh.cls ((CU.out _ _).mpr rfl);go_simp;exact HK.out
     ·intro Lq wq xq hh;simp only [Aw];refine Reg.go rfl ?_;have HK:=A9.out 2 _ _ _ rfl hh.cls ((Dd.out _ _).mpr rfl);go_simp;exact HK.out
     ·intro Lq wq xq hh;simp only [Aw,(CU.out _ _).mp (hh.v 1),(Dd.out _ _).mp (hh.v 2)];refine Reg.go rfl ?_;have HK:=A9.out 3 _ _ _ rfl hh.cls ((C7.out _ _).mpr rfl);go_simp;exact HK.out
     ·intro Lq wq xq hh;simp only [Aw,(C7.out _ _).mp (hh.v 3)];refine Reg.go rfl ?_;have HK:=A9.out 4 _ _ _ rfl hh.cls ((Dg.out _ _).mpr rfl);go_simp;exact HK.out
     ·intro Lq wq xq hh;simp only [Aw,(Dg.out _ _).mp (hh.v 4)];refine Reg.go rfl ?_;have hc:A1 Lq (xq 6) wq:=hh.cls;rw [Ay.out] at hc;have y0:=(hc.1.cell (p:=⟨b,off+i * 3+1,none⟩) Kz.out).trans EO.out;clear hc;have HK:=A9.out 5 _ _ _ rfl hh.cls ((CW.out _ _).mpr rfl);go_simp;exact HK.out
     ·intro Lq wq xq hh;simp only [Aw,(C5.out _ _).mp (hh.v 0),(CW.out _ _).mp (hh.v 5)];refine Reg.go rfl ?_;unfold Reg.upon;have hc:A1 Lq (xq 6) wq:=hh.cls;rw [Ay.out] at hc;have hb:=hc.2.1 (Mix.one_un (hh.notYet 7 (by kernel_rfl)));have OV:=Jq.out wq hb;go_simp;refine OV.mono ?_;rintro e w2 ⟨x,rfl,hr,b9⟩;have hF:A1 (Lq.setIfInBounds 6 true) x w2:=by
       rw [Ay.out];refine ⟨hc.1.trans (b9.mono hc.1.size),fun _=>hb.trans (b9.mono hb.size),fun _ _=>hr,fun e=>?_⟩;rw [Mix.one_ne (by decide),Mix.one_un (hh.notYet 7 (by kernel_rfl))] at e;exact absurd e (by decide)
      exact ⟨_,rfl,hF,(by rw [C9.out];trivial),(by rw [Df.out];trivial)⟩
     ·intro Lq wq xq hh;have d6:=(C9.out _ _).mp (hh.v 6);simp only [Aw];refine Reg.go rfl ?_;unfold Reg.upon;have hc:A1 Lq (xq 6) wq:=hh.cls;rw [Ay.out] at hc;have hb:=hc.2.1 hh.un;have hr:=hc.2.2.1 (hh.isDone 6 (by kernel_rfl)) hh.un;have Aj:=Q1.out.hasAt F1.out.1 hb;have s0:=Aj.cell 0 _ rfl;have s1:=Aj.cell 1 _ rfl;have s2:=Aj.cell 2 _ rfl;have s3:=Aj.cell 3 _ rfl;have s4:=Aj.cell 4 _ rfl;have s5:=Aj.cell 5 _ rfl;have s6:=Aj.cell 6 _ rfl;have s7:=Aj.cell 7 _ rfl;have f0:=Aj.free 0;have f1:=Aj.free 1;have f2:=Aj.free 2;have f3:=Aj.free 3;have f4:=Aj.free 4;have f5:=Aj.free 5;have f6:=Aj.free 6;have f7:=Aj.free 7;obtain ⟨v',gv',bv',e1,q9,f9⟩:=QBox.store Q1.out F1.out.1 hb hr;obtain ⟨o9,k9,ev1⟩:=q9.2.1.len;obtain ⟨g9,l9,ev2⟩:=q9.2.2.1.len;obtain ⟨b0,j9,ev3⟩:=q9.2.2.2.len;obtain ⟨n9,G9⟩:=ae (p1.L.length);obtain ⟨m9,Jt⟩:=ae (G1.length);obtain ⟨h9,FB⟩:=ae (B1.length);rw [<-G9] at ev1;rw [<-Jt] at ev2;rw [<-FB] at ev3;subst ev1;subst ev2;subst ev3;clear G9 Jt FB;have hF:A1 (Lq.setIfInBounds 7 true) (xq 6) ((((((((wq.setCell ⟨gb,0,none⟩ (.slice o9 n9 k9)).setCell ⟨gb,1,none⟩ (.int .i64 p1.r)).setCell ⟨gb,2,none⟩ (.int .i64 p1.c)).setCell ⟨gb,3,none⟩ (.bool p1.pd)).setCell ⟨gb,4,none⟩ (.bool p1.au)).setCell ⟨gb,5,none⟩ (.slice g9 m9 l9)).setCell ⟨gb,6,none⟩ (.slice b0 h9 j9)).setCell ⟨gb,7,none⟩ (.int .i64 ((aA st0 B1).length:Nat))):=by
       rw [Ay.out];refine ⟨hc.1.trans ((db wq gb _ (.int .i64 p1.r) (.int .i64 p1.c) (.bool p1.pd) (.bool p1.au) _ _ (.int .i64 ((aA st0 B1).length:Nat))).below hc.1.size (fun x e=>by rw [e];exact CI.out)),fun e=>?_,fun _ e=>?_,fun _=>⟨_,_,_,q9,f9⟩⟩
       ·rw [Mix.one_set (by rw [hh.size];decide)] at e;exact absurd e (by decide)
       ·rw [Mix.one_set (by rw [hh.size];decide)] at e;exact absurd e (by decide)
      have hE:Hv 7 undef ((((((((wq.setCell ⟨gb,0,none⟩ (.slice o9 n9 k9)).setCell ⟨gb,1,none⟩ (.int .i64 p1.r)).setCell ⟨gb,2,none⟩ (.int .i64 p1.c)).setCell ⟨gb,3,none⟩ (.bool p1.pd)).setCell ⟨gb,4,none⟩ (.bool p1.au)).setCell ⟨gb,5,none⟩ (.slice g9 m9 l9)).setCell ⟨gb,6,none⟩ (.slice b0 h9 j9)).setCell ⟨gb,7,none⟩ (.int .i64 ((aA st0 B1).length:Nat))):=by rw [DC.out]
      have hX:EX wq ((((((((wq.setCell ⟨gb,0,none⟩ (.slice o9 n9 k9)).setCell ⟨gb,1,none⟩ (.int .i64 p1.r)).setCell ⟨gb,2,none⟩ (.int .i64 p1.c)).setCell ⟨gb,3,none⟩ (.bool p1.pd)).setCell ⟨gb,4,none⟩ (.bool p1.au)).setCell ⟨gb,5,none⟩ (.slice g9 m9 l9)).setCell ⟨gb,6,none⟩ (.slice b0 h9 j9)).setCell ⟨gb,7,none⟩ (.int .i64 ((aA st0 B1).length:Nat))):=by rw [Df.out];trivial
      rw [e1];clear hc Aj hb hr q9 f9;go_simp;exact ⟨hF,hE,hX⟩
     intro xq wrgb D5 J2;rw [Ay.out] at D5;simp only [Aw];clear J2 Aw A9 Ds F8 Eh FJ Ay Df EQ DB C5 CU Dd C7 Dg CW C9 DC;obtain ⟨v2,gv2,bv2,Au,hf2⟩:=D5.2.2.2 (by kernel_rfl);have Jd:=ab D5.1;obtain ⟨w5,EF⟩:=ae (wrgb);rw [<-EF] at Au hf2 Jd;rw [<-EF];clear EF D5 Jq;have EW:=ab Au;have I6:=ab (show FOn (fun _=>True) BB w5 gp gg gr wd gf R1 p1 G1 (aF st0 B1) op1 from ⟨hf2,F1.out.2.1,F1.out.2.2.1,Nat.le_trans hf2.2.gp_lt.1 (Nat.le_of_lt hf2.2.gp_lt.2)⟩);clear Au hf2;go_wp2;go_meet
     case rel=>exact ⟨R1,p1,G1,B1,op1,v2,gv2,bv2,I6.out,EW.out,Jd.out,DR.out,AL.out⟩
    by_cases J1:K=1
    ·
     have k0:(K == 0)=false:=by rw [beq_eq_false_iff_ne];omega
     have k1:(K == 1)=true:=by rw [beq_iff_eq];omega
     have DU:=ab (sf BB gp gg gr wd gf R p G (aF st0 bs) op X wq HF.out.1)
     go_wp2_with fail
     refine DU.out.mono ?_;rintro e w1 ⟨rfl,kg⟩;obtain ⟨R1,op1,f1,u1,b1,rf1,AA⟩:=HF.out.go kg;have q1:=HQ.out.go HF.out.1 u1 rf1 AA;have bw1:=HB.out.trans (b1.mono Mn.out);have Cd:=fun w' hb=>q1.rune (w1:=w') hb X (by have:=HL.out.1;omega)
     obtain ⟨p1,DK⟩:=ae (p);obtain ⟨G1,Er⟩:=ae (G++[aS X]);obtain ⟨B1,DO⟩:=ae (bs);have AL:=ab (show G1.length<=121 * (i+1)/\B1.length<=60 * (i+1) from by
      have h2:=HL.out;rw [Er,DO,List.length_append];simp only [List.length_cons,List.length_nil];omega)
     have DR:=ab (show PnOk wd ht p1/\AllV G1/\inBytes B1/\G1.length<=1000000/\B1.length<=1000000 from ⟨by rw [DK];exact Jl.out,by rw [Er];exact NQ.out.app (AllV.one X),by rw [DO];exact KJ.out,by have:=AL.out;omega,by have:=AL.out;omega⟩);have f1:FOn (fun _=>True) BB w1 gp gg gr wd gf R1 p1 G1 (aF st0 B1) op1:=by rw [DK,Er,DO];exact f1
     have Cd:∀ w' (_:Below w1.heap.size w1 w'),Calls Tryz.prog 34 #[.agg #[.slice vo nL vk,.int .i64 p.r,.int .i64 p.c,.bool p.pd,.bool p.au,.slice go1 nG gk,.slice bo nB bk,.int .i64 ((aA st0 bs).length:Nat)],.int .i32 X] w' (fun e w2=>∃ x,e=.returned x/\RQ w1 gp gr gf gb R1 op1 p1 G1 B1 x w2/\Below w'.heap.size w' w2):=by rw [DK,Er,DO];exact Cd
     have Jq:=ab Cd;clear Cd Er DO DK;have Q1:=ab q1;have F1:=ab f1;have JE:=ab bw1;clear q1 f1 bw1 u1 b1 rf1 AA kg;clear DU;obtain ⟨Dx,FR⟩ : ∃ CC:Array Bool->Value->World->Prop,CC=fun L8 x w'=>Below W.heap.size W w'/\(Mix.one L8 7=0->Below w1.heap.size w1 w')/\(Mix.one L8 6=1->Mix.one L8 7=0->RQ w1 gp gr gf gb R1 op1 p1 G1 B1 x w')/\(Mix.one L8 7=1->∃ v' gv' bv',QBox w' gp gr gf gb R1 op1 p1 G1 B1 v' gv' bv'/\FAt (fun _=>True) w' BB gp gg gr wd gf R1 p1 G1 (aF st0 B1) op1):=⟨_,rfl⟩
     obtain ⟨LU,JN,Hrgrx,Hrgrxb⟩:=Reg.xT;obtain ⟨LM,Hrgrst,GR,If,Hx,Gv,Ih,GN,Hm,Hrgre7⟩:=Reg.e8 LU
      (fun xx _=>xx=.agg #[.slice vo nL vk,.int .i64 p.r,.int .i64 p.c,.bool p.pd,.bool p.au,.slice go1 nG gk,.slice bo nB bk,.int .i64 ((aA st0 bs).length:Nat)])
      (fun xx _=>xx=.slice (some ⟨b,off,none⟩) m ca)
      (fun xx _=>xx=.int .i64 i)
      (fun xx _=>xx=.pointer (some ⟨b,off+i * 3,none⟩))
      (fun xx _=>xx=.pointer (some ⟨b,off+i * 3+2,none⟩))
      (fun xx _=>xx=.int .i32 X)
      (fun x w'=>True)
      (fun xx _=>xx=undef)
      (s6:=fun x w w1 hx h=>by rw [JN] at hx;exact h)
     have Hrgrk:Hid (∀ i L {x:Value} w,(i == 6 || i == 7)=false ->  Dx L x w->Dx (L.setIfInBounds i true) x w):=ab (by
      intro i L x w q h;simp only [Bool.or_eq_false_iff,beq_eq_false_iff_ne] at q;rw [FR] at h ⊢;simp only [Mix.one_ne q.1,Mix.one_ne q.2];exact h)
     have Hrgrb:Hid (∀ L {x:Value} w w1,Dx L x w->Below w.heap.size w w1->Dx L x w1):=ab (by
      intro L x w w1 h hb;rw [FR] at h ⊢
      (obtain ⟨q1,q2,q3,q4⟩:=h;exact ⟨q1.trans (hb.mono q1.size),fun e=>(q2 e).trans (hb.mono (q2 e).size),fun e f=>(q3 e f).below (q2 f).size hb,fun e=>by obtain ⟨a1,a2,a3,h1,h2⟩:=q4 e;exact ⟨a1,a2,a3,h1.below h2 hb,h2.below hb⟩⟩))
     have Hrgrc:=ab (show ∀ x,Dx (Array.replicate 8 false) x w1.drew from fun x=>by rw [FR];exact ⟨JE.out.trans ((Below.refl w1.heap.size w1).drew.mono JE.out.size),fun _=>(Below.refl _ _).drew,fun e=>absurd e (by decide),fun e=>absurd e (by decide)⟩);have D2:=ab (fun (i:Nat) L {x:Value} w v q (h:Dx L x w) (e:LM i v w)=>Reg.hk (Hrgrk.out i L w q h) e (Hrgrx.out w));have Cz:=ab FR;have GV:=ab JN;clear FR JN
     go_wp2_with fail
     refine RegC.regionF 6 LM Dx LU Hrgrst.out (by kernel_rfl) (by kernel_rfl) (by kernel_rfl) Hrgrc.out (fun Frgr Cq=>?_);simp only [Reg.frame,Reg.dsts,List.map_cons,List.map_nil,Mix.put_lit,Reg.put_none,List.set_cons_succ,List.set_cons_zero,Nat.zero_add,Nat.reduceAdd] at Cq;refine ⟨⟨?_,?_,?_,?_,?_,?_,?_,?_,trivial⟩,?_⟩
     ·intro Lq wq xq hh;simp only [Cq];refine Reg.go rfl ?_;have hc:Dx Lq (xq 6) wq:=hh.cls;rw [Cz.out] at hc;have hq:=Q1.out.hasAt F1.out.1 (hc.2.1 (Mix.one_un (hh.notYet 7 (by kernel_rfl))));have q0:=hq.cell 0 _ rfl;have q1:=hq.cell 1 _ rfl;have q2:=hq.cell 2 _ rfl;have q3:=hq.cell 3 _ rfl;have q4:=hq.cell 4 _ rfl;have q5:=hq.cell 5 _ rfl;have q6:=hq.cell 6 _ rfl;have q7:=hq.cell 7 _ rfl;clear hc;have HK:=D2.out 0 _ _ _ rfl hh.cls ((GR.out _ _).mpr rfl);go_simp;exact HK.out
     ·intro Lq wq xq hh;simp only [Cq];refine Reg.go rfl ?_;have HK:=D2.out 1 _ _ _ rfl hh.cls ((If.out _ _).mpr rfl);go_simp;exact HK.out
     ·intro Lq wq xq hh;simp only [Cq];refine Reg.go rfl ?_;have HK:=D2.out 2 _ _ _ rfl hh.cls ((Hx.out _ _).mpr rfl);go_simp;exact HK.out
     ·intro Lq wq xq hh;simp only [Cq,(If.out _ _).mp (hh.v 1),(Hx.out _ _).mp (hh.v 2)];refine Reg.go rfl ?_;have HK:=D2.out 3 _ _ _ rfl hh.cls ((Gv.out _ _).mpr rfl);go_simp;exact HK.out
     ·intro Lq wq xq hh;simp only [Cq,(Gv.out _ _).mp (hh.v 3)];refine Reg.go rfl ?_;have HK:=D2.out 4 _ _ _ rfl hh.cls ((Ih.out _ _).mpr rfl);go_simp;exact HK.out
     ·intro Lq wq xq hh;simp only [Cq,(Ih.out _ _).mp (hh.v 4)];refine Reg.go rfl ?_;have hc:Dx Lq (xq 6) wq:=hh.cls;rw [Cz.out] at hc;have y0:=(hc.1.cell (p:=⟨b,off+i * 3+2,none⟩) Kz.out).trans I3.out;clear hc;have HK:=D2.out 5 _ _ _ rfl hh.cls ((GN.out _ _).mpr rfl);go_simp;exact HK.out
     ·intro Lq wq xq hh;simp only [Cq,(GR.out _ _).mp (hh.v 0),(GN.out _ _).mp (hh.v 5)];refine Reg.go rfl ?_;unfold Reg.upon;have hc:Dx Lq (xq 6) wq:=hh.cls;rw [Cz.out] at hc;have hb:=hc.2.1 (Mix.one_un (hh.notYet 7 (by kernel_rfl)));have OV:=Jq.out wq hb;go_simp;refine OV.mono ?_;rintro e w2 ⟨x,rfl,hr,b9⟩;have hF:Dx (Lq.setIfInBounds 6 true) x w2:=by
       rw [Cz.out];refine ⟨hc.1.trans (b9.mono hc.1.size),fun _=>hb.trans (b9.mono hb.size),fun _ _=>hr,fun e=>?_⟩;rw [Mix.one_ne (by decide),Mix.one_un (hh.notYet 7 (by kernel_rfl))] at e;exact absurd e (by decide)
      exact ⟨_,rfl,hF,(by rw [Hm.out];trivial),(by rw [GV.out];trivial)⟩
     ·intro Lq wq xq hh;have d6:=(Hm.out _ _).mp (hh.v 6);simp only [Cq];refine Reg.go rfl ?_;unfold Reg.upon;have hc:Dx Lq (xq 6) wq:=hh.cls;rw [Cz.out] at hc;have hb:=hc.2.1 hh.un;have hr:=hc.2.2.1 (hh.isDone 6 (by kernel_rfl)) hh.un;have Aj:=Q1.out.hasAt F1.out.1 hb;have s0:=Aj.cell 0 _ rfl;have s1:=Aj.cell 1 _ rfl;have s2:=Aj.cell 2 _ rfl;have s3:=Aj.cell 3 _ rfl;have s4:=Aj.cell 4 _ rfl;have s5:=Aj.cell 5 _ rfl;have s6:=Aj.cell 6 _ rfl;have s7:=Aj.cell 7 _ rfl;have f0:=Aj.free 0;have f1:=Aj.free 1;have f2:=Aj.free 2;have f3:=Aj.free 3;have f4:=Aj.free 4;have f5:=Aj.free 5;have f6:=Aj.free 6;have f7:=Aj.free 7;obtain ⟨v',gv',bv',e1,q9,f9⟩:=QBox.store Q1.out F1.out.1 hb hr;obtain ⟨o9,k9,ev1⟩:=q9.2.1.len;obtain ⟨g9,l9,ev2⟩:=q9.2.2.1.len;obtain ⟨b0,j9,ev3⟩:=q9.2.2.2.len;obtain ⟨n9,G9⟩:=ae (p1.L.length);obtain ⟨m9,Jt⟩:=ae (G1.length);obtain ⟨h9,FB⟩:=ae (B1.length);rw [<-G9] at ev1;rw [<-Jt] at ev2;rw [<-FB] at ev3;subst ev1;subst ev2;subst ev3;clear G9 Jt FB;have hF:Dx (Lq.setIfInBounds 7 true) (xq 6) ((((((((wq.setCell ⟨gb,0,none⟩ (.slice o9 n9 k9)).setCell ⟨gb,1,none⟩ (.int .i64 p1.r)).setCell ⟨gb,2,none⟩ (.int .i64 p1.c)).setCell ⟨gb,3,none⟩ (.bool p1.pd)).setCell ⟨gb,4,none⟩ (.bool p1.au)).setCell ⟨gb,5,none⟩ (.slice g9 m9 l9)).setCell ⟨gb,6,none⟩ (.slice b0 h9 j9)).setCell ⟨gb,7,none⟩ (.int .i64 ((aA st0 B1).length:Nat))):=by
       rw [Cz.out];refine ⟨hc.1.trans ((db wq gb _ (.int .i64 p1.r) (.int .i64 p1.c) (.bool p1.pd) (.bool p1.au) _ _ (.int .i64 ((aA st0 B1).length:Nat))).below hc.1.size (fun x e=>by rw [e];exact CI.out)),fun e=>?_,fun _ e=>?_,fun _=>⟨_,_,_,q9,f9⟩⟩
       ·rw [Mix.one_set (by rw [hh.size];decide)] at e;exact absurd e (by decide)
       ·rw [Mix.one_set (by rw [hh.size];decide)] at e;exact absurd e (by decide)
      have hE:LM 7 undef ((((((((wq.setCell ⟨gb,0,none⟩ (.slice o9 n9 k9)).setCell ⟨gb,1,none⟩ (.int .i64 p1.r)).setCell ⟨gb,2,none⟩ (.int .i64 p1.c)).setCell ⟨gb,3,none⟩ (.bool p1.pd)).setCell ⟨gb,4,none⟩ (.bool p1.au)).setCell ⟨gb,5,none⟩ (.slice g9 m9 l9)).setCell ⟨gb,6,none⟩ (.slice b0 h9 j9)).setCell ⟨gb,7,none⟩ (.int .i64 ((aA st0 B1).length:Nat))):=by rw [Hrgre7.out]
      have hX:LU wq ((((((((wq.setCell ⟨gb,0,none⟩ (.slice o9 n9 k9)).setCell ⟨gb,1,none⟩ (.int .i64 p1.r)).setCell ⟨gb,2,none⟩ (.int .i64 p1.c)).setCell ⟨gb,3,none⟩ (.bool p1.pd)).setCell ⟨gb,4,none⟩ (.bool p1.au)).setCell ⟨gb,5,none⟩ (.slice g9 m9 l9)).setCell ⟨gb,6,none⟩ (.slice b0 h9 j9)).setCell ⟨gb,7,none⟩ (.int .i64 ((aA st0 B1).length:Nat))):=by rw [GV.out];trivial
      rw [e1];clear hc Aj hb hr q9 f9;go_simp;exact ⟨hF,hE,hX⟩
     intro xq wrgr IJ hvrgr;rw [Cz.out] at IJ;simp only [Cq];clear hvrgr Cq D2 Hrgrk Hrgrx Hrgrst Hrgrc Cz GV Hrgrb Hrgrxb GR If Hx Gv Ih GN Hm Hrgre7;obtain ⟨v2,gv2,bv2,Au,hf2⟩:=IJ.2.2.2 (by kernel_rfl);have Jd:=ab IJ.1;obtain ⟨w5,EF⟩:=ae (wrgr);rw [<-EF] at Au hf2 Jd;rw [<-EF];clear EF IJ Jq;have EW:=ab Au;have I6:=ab (show FOn (fun _=>True) BB w5 gp gg gr wd gf R1 p1 G1 (aF st0 B1) op1 from ⟨hf2,F1.out.2.1,F1.out.2.2.1,Nat.le_trans hf2.2.gp_lt.1 (Nat.le_of_lt hf2.2.gp_lt.2)⟩);clear Au hf2;go_wp2;go_meet
     case rel=>exact ⟨R1,p1,G1,B1,op1,v2,gv2,bv2,I6.out,EW.out,Jd.out,DR.out,AL.out⟩
    by_cases hk2:K=2
    ·
     have k0:(K == 0)=false:=by rw [beq_eq_false_iff_ne];omega
     have k1:(K == 1)=false:=by rw [beq_eq_false_iff_ne];omega
     have k2:(K == 2)=true:=by rw [beq_iff_eq];omega
     have DU:=ab (xF BB gp gg gr wd gf R p G (aF st0 bs) op wq HF.out.1 (xd KJ.out))
     go_wp2_with fail
     refine DU.out.mono ?_;rintro e w1 ⟨rfl,kg⟩;obtain ⟨R1,op1,f1,u1,b1,rf1,AA⟩:=HF.out.go kg;have q1:=HQ.out.go HF.out.1 u1 rf1 AA;have bw1:=HB.out.trans (b1.mono Mn.out);have Cd:=fun w' hb=>q1.flush (ht:=ht) (w1:=w') hb DN.out Jl.out (by have:=HL.out.1;omega) NQ.out (by have:=HL.out.2;omega) KJ.out
     obtain ⟨p1,DK⟩:=ae (bH wd p (bj (G++flT (aF st0 bs))));obtain ⟨G1,Er⟩ : ∃ G1:List Int,G1=[]:=⟨_,rfl⟩;obtain ⟨B1,DO⟩ : ∃ B1:List Int,B1=[]:=⟨_,rfl⟩;have AL:=ab (show G1.length<=121 * (i+1)/\B1.length<=60 * (i+1) from by
      rw [Er,DO];simp only [List.length_nil];omega)
     have DR:=ab (show PnOk wd ht p1/\AllV G1/\inBytes B1/\G1.length<=1000000/\B1.length<=1000000 from ⟨by rw [DK];exact Jl.out.lay DN.out _ ,by rw [Er];exact AllV.nil,by rw [DO];exact xb,by have:=AL.out;omega,by have:=AL.out;omega⟩);have f1:FOn (fun _=>True) BB w1 gp gg gr wd gf R1 p1 G1 (aF st0 B1) op1:=by rw [DK,Er,DO];exact f1
     have Cd:∀ w' (_:Below w1.heap.size w1 w'),Calls Tryz.prog 35 #[.agg #[.slice vo nL vk,.int .i64 p.r,.int .i64 p.c,.bool p.pd,.bool p.au,.slice go1 nG gk,.slice bo nB bk,.int .i64 ((aA st0 bs).length:Nat)]] w' (fun e w2=>∃ x,e=.returned x/\RQ w1 gp gr gf gb R1 op1 p1 G1 B1 x w2/\Below w'.heap.size w' w2):=by rw [DK,Er,DO];exact Cd
     have Jq:=ab Cd;clear Cd Er DO DK;have Q1:=ab q1;have F1:=ab f1;have JE:=ab bw1;clear q1 f1 bw1 u1 b1 rf1 AA kg;clear DU;have Aj:=Q1.out.1;have q0:=Aj.cell 0 _ rfl;have q1:=Aj.cell 1 _ rfl;have q2:=Aj.cell 2 _ rfl;have q3:=Aj.cell 3 _ rfl;have q4:=Aj.cell 4 _ rfl;have q5:=Aj.cell 5 _ rfl;have q6:=Aj.cell 6 _ rfl;have q7:=Aj.cell 7 _ rfl;clear Aj
     go_wp2_with fail
     refine (Jq.out w1 (Below.refl _ _)).mono ?_;rintro e w2 ⟨x,rfl,hr,b2⟩;obtain ⟨v',gv',bv',e1,q9,f9⟩:=QBox.store Q1.out F1.out.1 b2 hr;obtain ⟨o9,k9,ev1⟩:=q9.2.1.len;obtain ⟨g9,l9,ev2⟩:=q9.2.2.1.len;obtain ⟨b0,j9,ev3⟩:=q9.2.2.2.len;obtain ⟨n9,G9⟩:=ae (p1.L.length);obtain ⟨m9,Jt⟩:=ae (G1.length);obtain ⟨h9,FB⟩:=ae (B1.length);rw [<-G9] at ev1;rw [<-Jt] at ev2;rw [<-FB] at ev3;subst ev1;subst ev2;subst ev3;clear G9 Jt FB;subst e1;have Aj:=Q1.out.hasAt F1.out.1 b2;clear q0 q1 q2 q3 q4 q5 q6 q7;have s0:=Aj.cell 0 _ rfl;have s1:=Aj.cell 1 _ rfl;have s2:=Aj.cell 2 _ rfl;have s3:=Aj.cell 3 _ rfl;have s4:=Aj.cell 4 _ rfl;have s5:=Aj.cell 5 _ rfl;have s6:=Aj.cell 6 _ rfl;have s7:=Aj.cell 7 _ rfl;have f0:=Aj.free 0;have f1:=Aj.free 1;have f2:=Aj.free 2;have f3:=Aj.free 3;have f4:=Aj.free 4;have f5:=Aj.free 5;have f6:=Aj.free 6;have f7:=Aj.free 7;obtain ⟨w5,EF⟩:=ae (((((((((w2.setCell ⟨gb,0,none⟩ (.slice o9 n9 k9)).setCell ⟨gb,1,none⟩ (.int .i64 p1.r)).setCell ⟨gb,2,none⟩ (.int .i64 p1.c)).setCell ⟨gb,3,none⟩ (.bool p1.pd)).setCell ⟨gb,4,none⟩ (.bool p1.au)).setCell ⟨gb,5,none⟩ (.slice g9 m9 l9)).setCell ⟨gb,6,none⟩ (.slice b0 h9 j9)).setCell ⟨gb,7,none⟩ (.int .i64 ((aA st0 B1).length:Nat))));obtain ⟨v2,gv2,bv2,Au⟩ : ∃ v2 gv2 bv2,QBox w5 gp gr gf gb R1 op1 p1 G1 B1 v2 gv2 bv2:=⟨_,_,_,by rw [EF];exact q9⟩;have hf2:FAt (fun _=>True) w5 BB gp gg gr wd gf R1 p1 G1 (aF st0 B1) op1:=by rw [EF];exact f9
     have Jd:=ab (show Below W.heap.size W w5 from by
      have k1:=JE.out.trans (b2.mono JE.out.size);rw [EF];exact k1.trans ((db w2 gb _ (.int .i64 p1.r) (.int .i64 p1.c) (.bool p1.pd) (.bool p1.au) _ _ (.int .i64 ((aA st0 B1).length:Nat))).below k1.size (fun x e=>by rw [e];exact CI.out)))
     have Dk:=ab EF;clear Aj hr b2 q9 f9 EF Jq;have EW:=ab Au;have I6:=ab (show FOn (fun _=>True) BB w5 gp gg gr wd gf R1 p1 G1 (aF st0 B1) op1 from ⟨hf2,F1.out.2.1,F1.out.2.2.1,Nat.le_trans hf2.2.gp_lt.1 (Nat.le_of_lt hf2.2.gp_lt.2)⟩);clear Au hf2;go_wp2;go_meet
     case rel =>
      rw [<-Dk.out];exact ⟨R1,p1,G1,B1,op1,v2,gv2,bv2,I6.out,EW.out,Jd.out,DR.out,AL.out⟩
    have k0:(K == 0)=false:=by rw [beq_eq_false_iff_ne];omega
    have k1:(K == 1)=false:=by rw [beq_eq_false_iff_ne];omega
    have k2:(K == 2)=false:=by rw [beq_eq_false_iff_ne];omega
    have DU:=ab (mn HF.out.1)
    go_wp2_with fail
    refine DU.out.mono ?_;rintro e w1 ⟨rfl,kg⟩;obtain ⟨R1,op1,f1,u1,b1,rf1,AA⟩:=HF.out.go kg;have q1:=HQ.out.go HF.out.1 u1 rf1 AA;have bw1:=HB.out.trans (b1.mono Mn.out);have Cd:=fun w' hb=>q1.close (ht:=ht) (w1:=w') hb DN.out Jl.out (by have:=HL.out.1;omega) NQ.out
    obtain ⟨p1,DK⟩:=ae (bH wd p (bj G));obtain ⟨G1,Er⟩ : ∃ G1:List Int,G1=[]:=⟨_,rfl⟩;obtain ⟨B1,DO⟩:=ae (bs);have AL:=ab (show G1.length<=121 * (i+1)/\B1.length<=60 * (i+1) from by
     have h2:=HL.out;rw [Er,DO];simp only [List.length_nil];omega)
    have DR:=ab (show PnOk wd ht p1/\AllV G1/\inBytes B1/\G1.length<=1000000/\B1.length<=1000000 from ⟨by rw [DK];exact Jl.out.lay DN.out _ ,by rw [Er];exact AllV.nil,by rw [DO];exact KJ.out,by have:=AL.out;omega,by have:=AL.out;omega⟩);have f1:FOn (fun _=>True) BB w1 gp gg gr wd gf R1 p1 G1 (aF st0 B1) op1:=by rw [DK,Er,DO];exact f1
    have Cd:∀ w' (_:Below w1.heap.size w1 w'),Calls Tryz.prog 36 #[.agg #[.slice vo nL vk,.int .i64 p.r,.int .i64 p.c,.bool p.pd,.bool p.au,.slice go1 nG gk,.slice bo nB bk,.int .i64 ((aA st0 bs).length:Nat)]] w' (fun e w2=>∃ x,e=.returned x/\RQ w1 gp gr gf gb R1 op1 p1 G1 B1 x w2/\Below w'.heap.size w' w2):=by rw [DK,Er,DO];exact Cd
    have Jq:=ab Cd;clear Cd Er DO DK;have Q1:=ab q1;have F1:=ab f1;have JE:=ab bw1;clear q1 f1 bw1 u1 b1 rf1 AA kg;clear DU;have Aj:=Q1.out.1;have q0:=Aj.cell 0 _ rfl;have q1:=Aj.cell 1 _ rfl;have q2:=Aj.cell 2 _ rfl;have q3:=Aj.cell 3 _ rfl;have q4:=Aj.cell 4 _ rfl;have q5:=Aj.cell 5 _ rfl;have q6:=Aj.cell 6 _ rfl;have q7:=Aj.cell 7 _ rfl;clear Aj
    go_wp2_with fail
    refine (Jq.out w1 (Below.refl _ _)).mono ?_;rintro e w2 ⟨x,rfl,hr,b2⟩;obtain ⟨v',gv',bv',e1,q9,f9⟩:=QBox.store Q1.out F1.out.1 b2 hr;obtain ⟨o9,k9,ev1⟩:=q9.2.1.len;obtain ⟨g9,l9,ev2⟩:=q9.2.2.1.len;obtain ⟨b0,j9,ev3⟩:=q9.2.2.2.len;obtain ⟨n9,G9⟩:=ae (p1.L.length);obtain ⟨m9,Jt⟩:=ae (G1.length);obtain ⟨h9,FB⟩:=ae (B1.length);rw [<-G9] at ev1;rw [<-Jt] at ev2;rw [<-FB] at ev3;subst ev1;subst ev2;subst ev3;clear G9 Jt FB;subst e1;have Aj:=Q1.out.hasAt F1.out.1 b2;clear q0 q1 q2 q3 q4 q5 q6 q7;have s0:=Aj.cell 0 _ rfl;have s1:=Aj.cell 1 _ rfl;have s2:=Aj.cell 2 _ rfl;have s3:=Aj.cell 3 _ rfl;have s4:=Aj.cell 4 _ rfl;have s5:=Aj.cell 5 _ rfl;have s6:=Aj.cell 6 _ rfl;have s7:=Aj.cell 7 _ rfl;have f0:=Aj.free 0;have f1:=Aj.free 1;have f2:=Aj.free 2;have f3:=Aj.free 3;have f4:=Aj.free 4;have f5:=Aj.free 5;have f6:=Aj.free 6;have f7:=Aj.free 7;obtain ⟨w5,EF⟩:=ae (((((((((w2.setCell ⟨gb,0,none⟩ (.slice o9 n9 k9)).setCell ⟨gb,1,none⟩ (.int .i64 p1.r)).setCell ⟨gb,2,none⟩ (.int .i64 p1.c)).setCell ⟨gb,3,none⟩ (.bool p1.pd)).setCell ⟨gb,4,none⟩ (.bool p1.au)).setCell ⟨gb,5,none⟩ (.slice g9 m9 l9)).setCell ⟨gb,6,none⟩ (.slice b0 h9 j9)).setCell ⟨gb,7,none⟩ (.int .i64 ((aA st0 B1).length:Nat))));obtain ⟨v2,gv2,bv2,Au⟩ : ∃ v2 gv2 bv2,QBox w5 gp gr gf gb R1 op1 p1 G1 B1 v2 gv2 bv2:=⟨_,_,_,by rw [EF];exact q9⟩;have hf2:FAt (fun _=>True) w5 BB gp gg gr wd gf R1 p1 G1 (aF st0 B1) op1:=by rw [EF];exact f9
    have Jd:=ab (show Below W.heap.size W w5 from by
     have k1:=JE.out.trans (b2.mono JE.out.size);rw [EF];exact k1.trans ((db w2 gb _ (.int .i64 p1.r) (.int .i64 p1.c) (.bool p1.pd) (.bool p1.au) _ _ (.int .i64 ((aA st0 B1).length:Nat))).below k1.size (fun x e=>by rw [e];exact CI.out)))
    have Dk:=ab EF;clear Aj hr b2 q9 f9 EF Jq;have EW:=ab Au;have I6:=ab (show FOn (fun _=>True) BB w5 gp gg gr wd gf R1 p1 G1 (aF st0 B1) op1 from ⟨hf2,F1.out.2.1,F1.out.2.2.1,Nat.le_trans hf2.2.gp_lt.1 (Nat.le_of_lt hf2.2.gp_lt.2)⟩);clear Au hf2;go_wp2;go_meet
    case rel =>
     rw [<-Dk.out];exact ⟨R1,p1,G1,B1,op1,v2,gv2,bv2,I6.out,EW.out,Jd.out,DR.out,AL.out⟩
   case rest =>
    obtain ⟨R1,p1,G1,B1,op1,v2,gv2,bv2,O4,Au,hbc,DK,Cc⟩:=hcut;obtain ⟨w5,DT⟩:=ae (wc);subst DT;have hf2:=O4.1;have I6:=ab O4;have Jd:=ab hbc;have DR:=ab DK;have AL:=ab Cc;clear O4 hbc DK Cc;obtain ⟨vo2,vk2,rfl⟩:=Au.2.1.len;obtain ⟨go2,gk2,rfl⟩:=Au.2.2.1.len;obtain ⟨bo2,bk2,rfl⟩:=Au.2.2.2.len;obtain ⟨nL2,hnL2⟩:=ae (p1.L.length);obtain ⟨nG2,hnG2⟩:=ae (G1.length);obtain ⟨nB2,hnB2⟩:=ae (B1.length);rw [<-hnL2,<-hnG2,<-hnB2] at Au;have EW:=ab Au;obtain ⟨Q,hQ⟩:=ae (bH wd p1 (bj G1));have M0:=ab (fun w' hb=>QBox.pen (ht:=ht) Au (w1:=w') hb DN.out DR.out.1 DR.out.2.2.2.1 DR.out.2.1);rw [<-hQ] at M0;have HPN2:=ab (show ∃ Yo,xH Yo w5 BB gp gg gr wd R1 Q from by obtain ⟨Yo,_,h⟩:=hf2.2.pen;rw [hQ];exact ⟨Yo,h⟩);have FC:=ab (fun w' hb=>QBox.held Au (w1:=w') hb DR.out.2.2.2.2 DR.out.2.2.1);have HFH:=ab (fun w' (hb:Below w5.heap.size w5 w')=>ml (hf2.below hb));obtain ⟨IE,hhh⟩:=ae ((aF st0 B1).2.2);rw [<-hhh] at FC HFH;have Lo:=ab (fun w' hb=>QBox.openG Au (w1:=w') hb DR.out.2.2.2.1 DR.out.2.1);have HFO:=ab (fun w' (hb:Below w5.heap.size w5 w')=>mm (hf2.below hb));obtain ⟨OT,Pf⟩:=ae (eI G1);have HOT:=ab (show OT.length<=1000000 from by rw [Pf];exact open_short DR.out.2.2.2.1);rw [<-Pf] at Lo HFO;clear Au hf2 hnL2 hnG2 hnB2 hQ hhh Pf
    go_upto_region 24 with (fail)
    obtain ⟨Ca,Gd⟩ : ∃ CC:Array Bool->World->Prop,CC=fun L8 w'=>Below w5.heap.size w5 w':=⟨_,rfl⟩
    obtain ⟨Xrgz,FO,JO,CY⟩:=Reg.xB;obtain ⟨Ergz,Hrgzst,G3,GZ,Hq,Iw,Gr,Cm,Gz,Ha,GO,Gu,E7,E6,Bi,E5,Fp,EV,Fg,Fc,EZ,E4⟩:=Reg.e20 Xrgz
     (fun xx _=>xx=.pointer (some ⟨gp,0,none⟩))
     (fun xx _=>xx=.agg #[.slice vo2 nL2 vk2,.int .i64 p1.r,.int .i64 p1.c,.bool p1.pd,.bool p1.au,.slice go2 nG2 gk2,.slice bo2 nB2 bk2,.int .i64 ((aA st0 B1).length:Nat)])
     (fun x w'=>∃ v',x=.agg #[v',.int .i64 Q.r,.int .i64 Q.c,.bool Q.pd,.bool Q.au]/\HeldE lineE (fun _=>True) w' v' Q.L)
     (fun xx _=>xx=.bool true)
     (fun xx _=>xx=.bool false)
     (fun xx _=>xx=.bool false)
     (fun xx _=>xx=.pointer (some ⟨gf,0,none⟩))
     (fun xx _=>xx=.int .i64 IE)
     (fun xx _=>xx=.agg #[.slice vo2 nL2 vk2,.int .i64 p1.r,.int .i64 p1.c,.bool p1.pd,.bool p1.au,.slice go2 nG2 gk2,.slice bo2 nB2 bk2,.int .i64 ((aA st0 B1).length:Nat)])
     (fun xx _=>xx=.int .i64 IE)
     (fun xx _=>xx=.bool false)
     (fun xx _=>xx=.bool false)
     (fun xx _=>xx=.bool false)
     (fun xx _=>xx=.pointer (some ⟨gf,0,none⟩))
     (fun x w'=>HeldE (aE .i32) (fun _=>True) w' x OT)
     (fun xx _=>xx=.agg #[.slice vo2 nL2 vk2,.int .i64 p1.r,.int .i64 p1.c,.bool p1.pd,.bool p1.au,.slice go2 nG2 gk2,.slice bo2 nB2 bk2,.int .i64 ((aA st0 B1).length:Nat)])
     (fun x w'=>HeldE (aE .i32) (fun _=>True) w' x OT)
     (fun xx _=>xx=.bool true)
     (fun xx _=>xx=.bool false)
     (fun xx _=>xx=.bool false)
     (s2:=fun x w w1 hx h=>by rw [FO] at hx;first | exact HeldE.below h hx | (obtain ⟨v,e,h⟩:=h;exact ⟨v,e,h.below hx⟩))
     (s14:=fun x w w1 hx h=>by rw [FO] at hx;first | exact HeldE.below h hx | (obtain ⟨v,e,h⟩:=h;exact ⟨v,e,h.below hx⟩))
     (s16:=fun x w w1 hx h=>by rw [FO] at hx;first | exact HeldE.below h hx | (obtain ⟨v,e,h⟩:=h;exact ⟨v,e,h.below hx⟩))
    have Dl:Hid (∀ i L w, Ca L w->Ca (L.setIfInBounds i true) w):=ab (by
     intro i L w h;rw [Gd] at h ⊢;exact h)
    have El:Hid (∀ L w w1,Ca L w->Below w.heap.size w w1->Ca L w1):=ab (by
     intro L w w1 h hb;rw [Gd] at h ⊢;exact h.trans (hb.mono h.size))
    have Hrgzc:=ab (show Ca (Array.replicate 20 false) w5.drew from by rw [Gd];exact (Below.refl _ _).drew);have BK:=ab (fun (i:Nat) L w v (h:Ca L w) (e:Ergz i v w)=>Reg.hk (Dl.out i L w h) e (JO.out w));have A5:=ab Gd;have HrgzhX:=ab FO;clear Gd FO
    go_wp2_with fail
    refine Reg.regionF Ergz Ca Xrgz Hrgzst.out (by kernel_rfl) (by kernel_rfl) (by kernel_rfl) Hrgzc.out (fun Frgz AH=>?_);simp only [Reg.frame,Reg.dsts,List.map_cons,List.map_nil,Mix.put_lit,List.set_cons_succ,List.set_cons_zero,Nat.zero_add,Nat.reduceAdd] at AH;refine ⟨⟨?_,?_,?_,?_,?_,?_,?_,?_,?_,?_,?_,?_,?_,?_,?_,?_,?_,?_,?_,?_,trivial⟩,?_⟩
    ·intro Lq wq xq hh;simp only [AH];refine Reg.go rfl ?_;have HK:=BK.out 0 _ _ _ hh.cls ((G3.out _ _).mpr rfl);go_simp;exact HK.out
    ·intro Lq wq xq hh;simp only [AH];refine Reg.go rfl ?_;have hc:Ca Lq wq:=hh.cls;rw [A5.out] at hc;have hq:=EW.out.hasAt I6.out.1 hc;have q0:=hq.cell 0 _ rfl;have q1:=hq.cell 1 _ rfl;have q2:=hq.cell 2 _ rfl;have q3:=hq.cell 3 _ rfl;have q4:=hq.cell 4 _ rfl;have q5:=hq.cell 5 _ rfl;have q6:=hq.cell 6 _ rfl;have q7:=hq.cell 7 _ rfl;clear hc;have HK:=BK.out 1 _ _ _ hh.cls ((GZ.out _ _).mpr rfl);go_simp;exact HK.out
    ·intro Lq wq xq hh;simp only [AH,(GZ.out _ _).mp (hh.v 1)];refine Reg.go rfl ?_;unfold Reg.upon;have hc:Ca Lq wq:=hh.cls;rw [A5.out] at hc;have MU:=M0.out wq hc;go_simp;refine MU.mono ?_;rintro e w2 ⟨x,rfl,hx,hb⟩;exact ⟨_,rfl,Dl.out 2 Lq w2  (El.out Lq wq w2 hh.cls hb),(by rw [Hq.out];exact hx),CY.out wq w2 hb⟩
    ·intro Lq wq xq hh;have d2:=(Hq.out _ _).mp (hh.v 2);simp only [AH,(G3.out _ _).mp (hh.v 0)];refine Reg.go rfl ?_;unfold Reg.upon;have hc:Ca Lq wq:=hh.cls;rw [A5.out] at hc;obtain ⟨v',ev,hv'⟩:=d2;obtain ⟨Yo,hp⟩:=HPN2.out;have I7:=tT BB gp gg gr wd R1 Q.L Q.r Q.c Q.pd Q.au _ v' wq (hp.any.below hc) hv';rw [ev];go_simp;refine I7.mono ?_;rintro e w2 ⟨rfl,hb⟩;exact ⟨_,rfl,Dl.out 3 Lq w2  (El.out Lq wq w2 hh.cls hb),(by rw [Iw.out]),CY.out wq w2 hb⟩
    ·intro Lq wq xq hh;simp only [AH,(Iw.out _ _).mp (hh.v 3)];refine Reg.go rfl ?_;have HK:=BK.out 4 _ _ _ hh.cls ((Gr.out _ _).mpr rfl);go_simp;exact HK.out
    ·intro Lq wq xq hh;simp only [AH,(Gr.out _ _).mp (hh.v 4)];refine Reg.go rfl ?_;have HK:=BK.out 5 _ _ _ hh.cls ((Cm.out _ _).mpr rfl);go_simp;exact HK.out
    ·intro Lq wq xq hh;simp only [AH,(Cm.out _ _).mp (hh.v 5)];refine Reg.go rfl ?_;have HK:=BK.out 6 _ _ _ hh.cls ((Gz.out _ _).mpr rfl);go_simp;exact HK.out
    ·intro Lq wq xq hh;simp only [AH,(Cm.out _ _).mp (hh.v 5),(Gz.out _ _).mp (hh.v 6)];refine Reg.go rfl ?_;unfold Reg.upon;have hc:Ca Lq wq:=hh.cls;rw [A5.out] at hc;go_simp;refine (HFH.out wq hc).mono ?_;rintro e w2 ⟨rfl,rfl⟩;exact ⟨_,rfl,Dl.out 7 Lq wq  hh.cls,(by rw [Ha.out];try rfl),JO.out _⟩
    ·intro Lq wq xq hh;simp only [AH,(Cm.out _ _).mp (hh.v 5)];refine Reg.go rfl ?_;have hc:Ca Lq wq:=hh.cls;rw [A5.out] at hc;have hq:=EW.out.hasAt I6.out.1 hc;have q0:=hq.cell 0 _ rfl;have q1:=hq.cell 1 _ rfl;have q2:=hq.cell 2 _ rfl;have q3:=hq.cell 3 _ rfl;have q4:=hq.cell 4 _ rfl;have q5:=hq.cell 5 _ rfl;have q6:=hq.cell 6 _ rfl;have q7:=hq.cell 7 _ rfl;clear hc;have HK:=BK.out 8 _ _ _ hh.cls ((GO.out _ _).mpr rfl);go_simp;exact HK.out
    ·intro Lq wq xq hh;simp only [AH,(Cm.out _ _).mp (hh.v 5),(GO.out _ _).mp (hh.v 8)];refine Reg.go rfl ?_;unfold Reg.upon;have hc:Ca Lq wq:=hh.cls;rw [A5.out] at hc;go_simp;refine (FC.out wq hc).mono ?_;rintro e w2 ⟨rfl,hb⟩;exact ⟨_,rfl,Dl.out 9 Lq w2  (El.out Lq wq w2 hh.cls hb),(by rw [Gu.out];try rfl),CY.out wq w2 hb⟩
    ·intro Lq wq xq hh;simp only [AH,(Cm.out _ _).mp (hh.v 5),(Ha.out _ _).mp (hh.v 7),(Gu.out _ _).mp (hh.v 9)];refine Reg.go rfl ?_;have hc:Ca Lq wq:=hh.cls;rw [A5.out] at hc;have q1:(IE != IE)=false:=by simp
     clear hc;have HK:=BK.out 10 _ _ _ hh.cls ((E7.out _ _).mpr rfl);go_simp;exact HK.out
    ·intro Lq wq xq hh;simp only [AH,(Cm.out _ _).mp (hh.v 5),(E7.out _ _).mp (hh.v 10)];refine Reg.go rfl ?_;have HK:=BK.out 11 _ _ _ hh.cls ((E6.out _ _).mpr rfl);go_simp;exact HK.out
    ·intro Lq wq xq hh;simp only [AH,(E6.out _ _).mp (hh.v 11)];refine Reg.go rfl ?_;have HK:=BK.out 12 _ _ _ hh.cls ((Bi.out _ _).mpr rfl);go_simp;exact HK.out
    ·intro Lq wq xq hh;simp only [AH,(Bi.out _ _).mp (hh.v 12)];refine Reg.go rfl ?_;have HK:=BK.out 13 _ _ _ hh.cls ((E5.out _ _).mpr rfl);go_simp;exact HK.out
    ·intro Lq wq xq hh;simp only [AH,(Bi.out _ _).mp (hh.v 12),(E5.out _ _).mp (hh.v 13)];refine Reg.go rfl ?_;unfold Reg.upon;have hc:Ca Lq wq:=hh.cls;rw [A5.out] at hc;have MU:=HFO.out wq hc;go_simp;refine MU.mono ?_;rintro e w2 ⟨x,rfl,hx,hb⟩;exact ⟨_,rfl,Dl.out 14 Lq w2  (El.out Lq wq w2 hh.cls hb),(by rw [Fp.out];exact hx.zone fun _ _ _=>trivial),CY.out wq w2 hb⟩
    ·intro Lq wq xq hh;simp only [AH,(Bi.out _ _).mp (hh.v 12)];refine Reg.go rfl ?_;have hc:Ca Lq wq:=hh.cls;rw [A5.out] at hc;have hq:=EW.out.hasAt I6.out.1 hc;have q0:=hq.cell 0 _ rfl;have q1:=hq.cell 1 _ rfl;have q2:=hq.cell 2 _ rfl;have q3:=hq.cell 3 _ rfl;have q4:=hq.cell 4 _ rfl;have q5:=hq.cell 5 _ rfl;have q6:=hq.cell 6 _ rfl;have q7:=hq.cell 7 _ rfl;clear hc;have HK:=BK.out 15 _ _ _ hh.cls ((EV.out _ _).mpr rfl);go_simp;exact HK.out
    ·intro Lq wq xq hh;simp only [AH,(Bi.out _ _).mp (hh.v 12),(EV.out _ _).mp (hh.v 15)];refine Reg.go rfl ?_;unfold Reg.upon;have hc:Ca Lq wq:=hh.cls;rw [A5.out] at hc;have MU:=Lo.out wq hc;go_simp;refine MU.mono ?_;rintro e w2 ⟨x,rfl,hx,hb⟩;exact ⟨_,rfl,Dl.out 16 Lq w2  (El.out Lq wq w2 hh.cls hb),(by rw [Fg.out];exact hx),CY.out wq w2 hb⟩
    ·intro Lq wq xq hh;have d14:=(Fp.out _ _).mp (hh.v 14);have d16:=(Fg.out _ _).mp (hh.v 16);simp only [AH,(Bi.out _ _).mp (hh.v 12)];refine Reg.go rfl ?_;unfold Reg.upon;have hc:Ca Lq wq:=hh.cls;rw [A5.out] at hc;have hsm:=ly _ _ OT OT wq d14.ints d16.ints (by have:=HOT.out;omega);rw [lx] at hsm;go_simp;refine hsm.mono ?_;rintro e w2 ⟨rfl,hb⟩;exact ⟨_,rfl,Dl.out 17 Lq w2  (El.out Lq wq w2 hh.cls hb),(by rw [Fc.out]),CY.out wq w2 hb⟩
    ·intro Lq wq xq hh;simp only [AH,(Bi.out _ _).mp (hh.v 12),(Fc.out _ _).mp (hh.v 17)];refine Reg.go rfl ?_;have HK:=BK.out 18 _ _ _ hh.cls ((EZ.out _ _).mpr rfl);go_simp;exact HK.out
    ·intro Lq wq xq hh;simp only [AH,(Bi.out _ _).mp (hh.v 12),(EZ.out _ _).mp (hh.v 18)];refine Reg.go rfl ?_;have HK:=BK.out 19 _ _ _ hh.cls ((E4.out _ _).mpr rfl);go_simp;exact HK.out
    intro xq wrgz FT hvrgz;rw [A5.out] at FT;simp only [AH];have vrgz19:=(E4.out _ _).mp (hvrgz 19 (by decide));rw [vrgz19];clear hvrgz AH BK Dl JO Hrgzst Hrgzc A5 HrgzhX El CY G3 GZ Hq Iw Gr Cm Gz Ha GO Gu E7 E6 Bi E5 Fp EV Fg Fc EZ E4;have HZQ:=ab (EW.out.below I6.out.1 FT);have HZF:=ab (I6.out.below FT);have HZB:=ab (Jd.out.trans (FT.mono Jd.out.size));clear FT;go_wp2
    go_roundw
    case rel=>exact ⟨i+1,R1,p1,G1,B1,op1,_,_,_,by omega,by go_num,HZF.out,HZQ.out,HZB.out,DR.out.1,DR.out.2.1,DR.out.2.2.1,AL.out.1,AL.out.2⟩
    case measure=>simp [intOf] <;> omega
  ·obtain rfl:i=m:=by omega
   go_wp2;go_ret;exact ⟨af,HB.out⟩
theorem acts_arg{H:Type}{enc:TypeId × Value->H}{W:World}{base:Nat}{v:Value}{d:DataW H}{p:List MemPlace}(hv:Value.okWide Tryz.prog W .any base 61 v)(h:DataW.Trod enc Tryz.prog W 0 (fun _=>true) true 61 v d p):∃ L,HeldE actE (fun _=>True) W v L/\∀ x ∈ L,∀ y ∈ x.2.1,0<=y/\y<=255:=by
 obtain ⟨L,hL,Bn⟩:=sU (E:=actE) Tryz.underlying61 (by kernel_rfl) (by decide) (n7 Tryz.underlying68 (by kernel_rfl) rfl rfl rfl (jV (k:=.i64) Tryz.underlying3 (by kernel_rfl)) (ks Tryz.underlying55 (by kernel_rfl) (by decide) (jV (k:=.u8) Tryz.underlying5 (by kernel_rfl))) (jV (k:=.i32) Tryz.underlying21 (by kernel_rfl))) hv h;refine ⟨L,hL.zone (fun _ _ _=>trivial),fun x hx y hy=>?_⟩;have:=bounds_u8 ((Bn x hx).2.1 y hy);omega
theorem walk{H:Type}{enc:TypeId × Value->H}(W:World)(a:Int)(_:(Lit.int .i64 a).wf=true)(b:Int)(_:(Lit.int .i64 b).wf=true)(u:Value){base:Nat}{d:DataW H}{p:List MemPlace}(hv:Value.okWide Tryz.prog W .any base 61 u)(h:DataW.Trod enc Tryz.prog W 0 (fun _=>true) true 61 u d p)(_:laidMetH Tryz.prog Rows.feedPlaysRow.laid W):Calls Tryz.prog 5 #[.int .i64 a,.int .i64 b,u] W (Yes W):=by
 obtain ⟨A,hA,Bn⟩:=acts_arg hv h;exact walkH W a b u A _ hA Bn
theorem door_met(os:Os):laidMetH Tryz.prog Rows.feedPlaysRow.laid ((World.doorLaid Tryz.prog 400 os).forCall (fun _ _=>0) ⟨#[],#[.int .i64 0,.int .i64 0,.slice none 0 0],[]⟩).memory :=
 laidMetH_of_parts3 (fuel:=8) (laidMet_of_run' 8 (by kernel_rfl) (by kernel_rfl)) (by kernel_rfl) (by kernel_rfl)
theorem lifted(os:Os)(started:os.Started)(H:Type)(enc:TypeId × Value->H) :
  ReturnsInHanded {} Tryz.checked os 5 .any (fun w args=>(Rows.feedPlaysSpec.pre enc Tryz.prog Tryz.f5 [] false w args/\laidMetH Tryz.prog Rows.feedPlaysRow.laid w)/\sizedMet enc Tryz.prog Tryz.f5 (OpenSpec.ofChange Rows.feedPlaysSpec) false w args)
   (Rows.feedPlaysSpec.post enc Tryz.prog Tryz.f5 false true false false):=by
 refine sT (C:=Tryz.checked) (tb:=4) (by kernel_rfl) started (by kernel_rfl) Tryz.func5 (by kernel_rfl) (by kernel_rfl) Tryz.underlying4 rfl
  (by rw [Tryz.params5];intro t ht;simp at ht;rcases ht with rfl | rfl <;> exact ⟨by kernel_rfl,of_decide_eq_true (by kernel_rfl)⟩)
  (by rw [Tryz.params5];intro ds hd;match ds,hd with | [_,_,_],_=>rfl)
  (ChangeSpec.witness_shaped (enc:=enc) (C:=Tryz.checked) (os:=os) (X:=fun w _=>laidMetH Tryz.prog Rows.feedPlaysRow.laid w) false (World.doorLaid Tryz.prog 400 os) #[.int .i64 0,.int .i64 0,.slice none 0 0] 8 rfl (World.shaped_of_RefB (by kernel_rfl) (by kernel_rfl)) (by kernel_rfl) (by kernel_rfl) (by kernel_rfl) (door_met os)) ?_
 intro W base args ds before hval hA hsz hL;rw [Tryz.params5] at hA hval;obtain ⟨v0,vs0,d0,ds0,p0,q0,hargs,rfl,rfl,h0,r0⟩:=trodAll_cons hA;obtain ⟨v1,vs1,d1,ds1,p1,q1,rfl,rfl,rfl,h1,r1⟩:=trodAll_cons r0;obtain ⟨v2,vs2,d2,ds2,p2,q2,rfl,rfl,rfl,h2,r2⟩:=trodAll_cons r1;obtain ⟨rfl,rfl,rfl⟩:=trodAll_nil r2;obtain rfl:args=#[v0,v1,v2]:=by cases args;simp_all
 obtain ⟨x0,rfl,rfl,rfl,wx0⟩:=open_int Tryz.underlying3 (hval 0 3 v0 rfl rfl) h0;obtain ⟨x1,rfl,rfl,rfl,wx1⟩:=open_int Tryz.underlying3 (hval 1 3 v1 rfl rfl) h1;exact walk W x0 wx0 x1 wx1 v2 (hval 2 61 v2 rfl rfl) h2 hL
theorem and_two{a b:Bool}(ha:a=true)(hb:b=true):(a && b)=true:=by rw [ha,hb];rfl
theorem joined:joinedFacts Tryz.pinned.checked.prog 5 Tryz.f5 Rows.feedPlaysSpec Rows.feedPlaysRow=true:=by
 unfold joinedFacts
 repeat' (with_reducible refine and_two ?_ ?_)
 all_goals (as_aux_lemma=>kernel_rfl)
theorem said:Rows.FeedPlaysSaid :=
 OpenClaim.holds_of_wide 5 Tryz.f5 rfl rfl rfl rfl rfl rfl rfl ⟨rfl,rfl,rfl,rfl,rfl⟩ rfl rfl rfl rfl rfl (by kernel_rfl) Tryz.func5 joined
  (of_decide_eq_true (by kernel_rfl)) (by unfold Func.isWrapper;first | (rw [if_pos (by decide +kernel)];kernel_rfl) | (rw [if_neg (by decide +kernel)];exact ⟨rfl,rfl⟩))
  (fun os started H enc _=>lifted os started H enc)
theorem plain (f : FuncId) (fn : Func) (hf : Tryz.pinned.checked.prog.funcNamed "linotype/linotypelaw37.FeedPlays" = some f) (hfn : Tryz.pinned.checked.prog.funcs[f]? = some fn) :
  true=Tryz.pinned.checked.prog.looks []/\∀ (j:Nat) t,fn.params[j]? = some t->Tryz.pinned.checked.prog.wantsStandIn t=false:=by
 obtain rfl : f = 5 := Option.some.inj ((show Tryz.prog.funcNamed "linotype/linotypelaw37.FeedPlays" = some 5 by kernel_rfl).symm.trans hf) |>.symm
 obtain rfl:fn=Tryz.f5:=(Option.some.inj (Tryz.func5.symm.trans hfn)).symm;refine ⟨by kernel_rfl,fun j t ht=>?_⟩;rw [Tryz.params5] at ht;have hm:t ∈ [3,3,61]:=by simpa using Array.mem_of_getElem? ht
 have hall:([3,3,61].all fun u=>!Tryz.prog.wantsStandIn u)=true:=by kernel_rfl
 exact (show Tryz.prog.wantsStandIn t=false by simpa using List.all_eq_true.1 hall t hm)
theorem card:Rows.FeedPlaysCardSaid :=
 Claim7.holds_tied_plain_at .later [] _ _ _ _ said (fun _ h=>by cases h) (by kernel_rfl) (fun _ h=>by cases h) feedPlays_row_tie rfl ⟨rfl,rfl⟩ (by kernel_rfl) rfl plain (by kernel_rfl)
#print axioms card
end Go.Proofs.YtoeggiplcaegoaaGreatDoor.lawFeedPlays
