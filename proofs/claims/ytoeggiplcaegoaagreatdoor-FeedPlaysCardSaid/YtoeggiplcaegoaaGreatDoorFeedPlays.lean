import Derived.Test.YtoeggiplcaegoaaGreatDoorZ0
import Derived.Test.YtoeggiplcaegoaaGreatDoorMg8
import Derived.Test.YtoeggiplcaegoaaGreatDoorMg1
import Derived.Test.YtoeggiplcaegoaaGreatDoorMg2
import Derived.Test.YtoeggiplcaegoaaGreatDoorCards
import Derived.Test.YtoeggiplcaegoaaGreatDoorTie
import Derived.ProofKit
import Derived.Lib.MinMax
import Derived.Deep.CutBlock
set_option maxRecDepth 100000
set_option maxHeartbeats 16000000
namespace Go.Proofs.YtoeggiplcaegoaaGreatDoor.lawFeedPlays
open Go.ChangeShapes Go.WideShapes Go.ChangeAt Go.RowKit
abbrev Act3:=Int × List Int × Int
def actE:Elem Act3:=prE (aE .i64) (prE (slE (aE .u8)) (aE .i32))
abbrev za:Act3:=(0,[],0)
theorem acts_at{Z:an}{w:World}{ao:Option Addr}{n cap:Nat}{L:List Act3}(h:HeldE actE Z w (.slice ao n cap) L):n=L.length/\n<=cap/\∀ i,i<L.length->∃ b off tv,ao=some ⟨b,off,none⟩/\b<w.heap.size /\
  w.cell? ⟨b,off+i * 3,none⟩=some (.int .i64 (L.getD i za).1)/\w.cell? ⟨b,off+i * 3+1,none⟩=some tv/\w.cell? ⟨b,off+i * 3+2,none⟩=some (.int .i32 (L.getD i za).2.2)/\HeldE (aE .u8) Z w tv (L.getD i za).2.1:=by
 obtain ⟨h1,h2,h3⟩:=h.spots;refine ⟨h1,h2,fun i hi=>?_⟩;obtain ⟨b,off,rfl,hb,hz,C,hC,hr⟩:=h3 i hi;obtain ⟨C1,C2,rfl,rfl,C3,C4,rfl,⟨tv,rfl,ht⟩,rfl⟩:=hr;exact ⟨b,off,tv,rfl,hb,hC 0 (by decide),hC 1 (by decide),hC 2 (by decide),ht⟩
theorem in_of{L:List Int}(h:∀ y ∈ L,0<=y/\y<=255):inBytes L:=fun i hi=>h _ (by rw [List.getD,List.getElem?_eq_getElem hi];exact List.getElem_mem hi)
theorem qbox_new{Xo:an}{w w1:World}{B gp gg gr wd gf:Nat}{R:List Rw}{p:Pn}{v:Value}(hF:FAt Xo w B gp gg gr wd gf R p [] st0 none)(hb:Below w.heap.size w w1)(hv:HeldE lineE (fun x=>w.heap.size+1<=x) w1 v p.L) :
  QBox (w1.alloc (.cells [v,.int .i64 p.r,.int .i64 p.c,.bool p.pd,.bool p.au,.slice none 0 0,.slice none 0 0,.int .i64 0].toArray 66)) gp gr gf w1.heap.size R none p [] [] v (.slice none 0 0) (.slice none 0 0):=by
 have hn:=Has.new w1 [v,.int .i64 p.r,.int .i64 p.c,.bool p.pd,.bool p.au,.slice none 0 0,.slice none 0 0,.int .i64 0] 66;have Cf:=zI w1 (.cells [v,.int .i64 p.r,.int .i64 p.c,.bool p.pd,.bool p.au,.slice none 0 0,.slice none 0 0,.int .i64 0].toArray 66);refine ⟨hn,?_,HeldE.nil _ _ _,HeldE.nil _ _ _⟩;have h2:=(hv.zone (Y:=fun x=>w.heap.size+1<=x/\x<w1.heap.size) fun x hx hz=>⟨hz,hx⟩).below Cf;exact h2.zone fun x hx hz=>⟨iX hF (by omega) hx,by omega⟩
theorem open_short{G:List Int}(h:G.length<=1000000):(eI G).length<=1000000:=by
 unfold eI
 split
 ·unfold eB clN;rw [List.length_map,List.length_take];omega
 ·simp
theorem walkH(W:World)(a b:Int)(va:Value)(A:List Act3)(Z:an)(hb:HeldE actE Z W va A)(BC:∀ x ∈ A,∀ y ∈ x.2.1,0<=y/\y<=255):Calls Tryz.prog 5 #[.int .i64 a,.int .i64 b,va] W (Yes W):=by
 obtain ⟨ao,ca,rfl⟩:=hb.len;have LD:=hb.max;obtain ⟨_,Bj,hc⟩:=acts_at hb;obtain ⟨m,hm⟩:=ae (A.length);have IM:=ab (show ∀ i,i<m->inBytes (A.getD i za).2.1 from fun i hi=>in_of (BC _ (by rw [hm] at hi;rw [List.getD,List.getElem?_eq_getElem hi];exact List.getElem_mem hi)));rw [<-hm] at hc LD Bj ⊢;have HC:=ab hc;clear hb hc hm BC
 by_cases h2:40<m
 ·have hd60:decide ((40:Int)<m)=true:=ah (by omega)
  go_enter Tryz.func5,Tryz.ntmps5
  go_wp2_with fail
  refine (gG _).mono ?_;rintro e w1 ⟨rfl,b1⟩
  go_wp2_with fail
  refine (gG _).mono ?_;rintro e w2 ⟨rfl,b2⟩;have B:=b1.trans (b2.mono b1.size);go_wp2;go_ret;exact ⟨zN,B⟩
 have hd60:decide ((40:Int)<m)=false:=ai (by omega);obtain ⟨y,hy⟩:=ae (IntKind.u64.wrap a);have CJ:0<=y/\y<=18446744073709551615:=by rw [hy,IntKind.wrap_u64];omega
 obtain ⟨c,hc⟩ : ∃ c:Nat,y % 9=(c:Int):=⟨(y % 9).toNat,by omega⟩;have Lw:c<9:=by omega
 have hy':IntKind.u64.wrap a=y:=hy.symm;have Jq:y.tmod 9=(c:Int):=by rw [Int.tmod_eq_emod_of_nonneg CJ.1];exact hc
 have hwc:IntKind.i64.wrap (c:Int)=(c:Int):=by rw [IntKind.wrap_i64];omega
 obtain ⟨wd,hwd⟩ : ∃ wd:Nat,IntKind.i64.wrap (1+(c:Int))=(wd:Int)/\1<=wd/\wd<=9:=⟨1+c,by rw [IntKind.wrap_i64];omega,by omega,by omega⟩;obtain ⟨OJ,Ch,N1⟩:=hwd;clear hy CJ hc Lw;obtain ⟨y2,hy⟩:=ae (IntKind.u64.wrap b);have CJ:0<=y2/\y2<=18446744073709551615:=by rw [hy,IntKind.wrap_u64];omega
 obtain ⟨d,hc⟩ : ∃ d:Nat,y2 % 5=(d:Int):=⟨(y2 % 5).toNat,by omega⟩;have Lw:d<5:=by omega
 have hy2':IntKind.u64.wrap b=y2:=hy.symm;have hct2:y2.tmod 5=(d:Int):=by rw [Int.tmod_eq_emod_of_nonneg CJ.1];exact hc
 have hwc2:IntKind.i64.wrap (d:Int)=(d:Int):=by rw [IntKind.wrap_i64];omega
 obtain ⟨ht,MK⟩ : ∃ ht:Nat,IntKind.i64.wrap (1+(d:Int))=(ht:Int)/\1<=ht/\ht<=5:=⟨1+d,by rw [IntKind.wrap_i64];omega,by omega,by omega⟩;obtain ⟨hww2,D2,hh5⟩:=MK;clear hy CJ hc Lw
 go_enter Tryz.func5,Tryz.ntmps5
 go_wp2_with fail
 refine (gG _).mono ?_;rintro e w1 ⟨rfl,b1⟩;have FO:=pw (wd:Int) (ht:Int) w1;rw [show da (wd:Int)=wd from by unfold da;omega,show da (ht:Int)=ht from by unfold da;omega] at FO
 go_wp2_with fail
 refine FO.mono ?_;rintro e w2 ⟨gp,gg,gr,R0,rfl,Kv,b2⟩;obtain ⟨P0,KK⟩ : ∃ P0:Pn,P0=⟨List.replicate ht (List.replicate wd zc,false),0,0,false,true⟩:=⟨_,rfl⟩;have hfn:=oB (p:=P0) (by rw [KK];exact Kv)
 go_wp2_with fail
 refine hfn.mono ?_;rintro e w3 ⟨gf,rfl,PA,hf3,b3⟩;have Ki:=tS wd ht (by omega) (by omega) w3
 go_wp2_with fail
 refine Ki.mono ?_;rintro e w4 ⟨v4,rfl,hv4,b4⟩;have hv4:HeldE lineE (fun x=>w3.heap.size+1<=x) w4 v4 P0.L:=by rw [KK];exact hv4
 obtain ⟨o4,k4,ev⟩:=hv4.len;obtain ⟨n0,Dy⟩:=ae (P0.L.length);rw [<-Dy] at ev;subst ev;have OF:=qbox_new hf3 b4 hv4;have DX:=ab (show eJ wd ht from ⟨by omega,by omega,by omega,by omega⟩);have HPN0:=ab (show PnOk wd ht P0 from by
  rw [KK];refine ⟨by rw [List.length_replicate],fun i hi=>?_⟩;rw [List.length_replicate] at hi
  simp [List.getD,List.getElem?_replicate,hi])
 rw [show P0.r=0 from by rw [KK],show P0.c=0 from by rw [KK],show P0.pd=false from by rw [KK],show P0.au=true from by rw [KK]] at OF;obtain ⟨gb,hgb⟩:=ae (w4.heap.size);obtain ⟨BB,OL⟩:=ae (w1.heap.size);obtain ⟨W5,AM⟩:=ae (w4.alloc (.cells [Value.slice o4 n0 k4,.int .i64 0,.int .i64 0,.bool false,.bool true,.slice none 0 0,.slice none 0 0,.int .i64 0].toArray 66));have Cf:Below w4.heap.size w4 W5:=by rw [AM];exact zI w4 _
 rw [<-AM,<-hgb] at OF;have PT:=ab OF;have MG:=ab (show W.heap.size<=BB from by rw [OL];exact b1.size);have Oo:=ab (show FOn (fun _=>True) BB W5 gp gg gr wd gf R0 P0 [] st0 none from by
  rw [OL];exact ⟨(hf3.below b4).below Cf,Nat.le_trans b2.size PA,(fun g e=>by cases e),Nat.le_trans b2.size (Nat.le_trans b3.size (Nat.le_trans b4.size Cf.size))⟩)
 have KU:=ab (((b1.trans (b2.mono b1.size)).trans (b3.mono (Nat.le_trans b1.size b2.size))).trans ((b4.mono (Nat.le_trans b1.size (Nat.le_trans b2.size b3.size))).trans (Cf.mono (Nat.le_trans b1.size (Nat.le_trans b2.size (Nat.le_trans b3.size b4.size))))));have HBG:=ab (show BB<=gb from by rw [OL,hgb];exact Nat.le_trans b2.size (Nat.le_trans b3.size b4.size));have CK:=ab (show W.heap.size<=gb from Nat.le_trans MG.out HBG.out);have Oy:=ab (show ∀ x,x<W.heap.size->¬ BB<=x from fun x hx e=>by have:=MG.out;omega);have hW5':W5=w4.alloc (.cells #[Value.slice o4 n0 k4,.int .i64 0,.int .i64 0,.bool false,.bool true,.slice none 0 0,.slice none 0 0,.int .i64 0] 66):=AM;have IZ:=ab Dy;have PO:=ab (show P0.r=0/\P0.c=0/\P0.pd=false/\P0.au=true from by rw [KK];exact ⟨rfl,rfl,rfl,rfl⟩);clear OF Cf AM OL hv4 hf3 PA Kv b1 b2 b3 b4 FO hfn Ki KK Dy
 go_upto_region 7 with (fail)
 rw [<-hW5',<-hgb];clear hW5' hgb;go_wp2
 go_loopw [10] (fun iv wr=>∃ (i:Nat) (R:List Rw) (p:Pn) (G bs:List Int) (op:Option Nat) (v gv bv:Value),i<=m/\iv=.int .i64 i/\FOn (fun _=>True) BB wr gp gg gr wd gf R p G (aF st0 bs) op/\QBox wr gp gr gf gb R op p G bs v gv bv/\Below W.heap.size W wr/\PnOk wd ht p/\AllV G/\inBytes bs/\G.length<=121 * i/\bs.length<=60 * i) (fun iv _=>m - (intOf iv).toNat)
 case atStart=>exact ⟨0,R0,P0,[],[],none,_,_,_,Nat.zero_le _,rfl,Oo.out,PT.out,KU.out,HPN0.out,AllV.nil,xb,Nat.zero_le _,Nat.zero_le _⟩
 case round =>
  obtain ⟨i,R,p,G,bs,op,v,gv,bv,hi,rfl,hf,hq,zP,FO,hG,PP,Dr,hl2⟩:=hrel;obtain ⟨wq,DU⟩:=ae (wr);subst DU;have HB:=ab zP
  by_cases hlt:i<m
  ·obtain ⟨vo,vk,rfl⟩:=hq.2.1.len;obtain ⟨go1,gk,rfl⟩:=hq.2.2.1.len;obtain ⟨bo,bk,rfl⟩:=hq.2.2.2.len;obtain ⟨nL,CR⟩:=ae (p.L.length);obtain ⟨nG,CM⟩:=ae (G.length);obtain ⟨nB,CO⟩:=ae (bs.length);rw [<-CR,<-CM,<-CO] at hq;have HF:=ab hf;have HQ:=ab hq;have Jl:=ab FO;have Oz:=ab hG;have K4:=ab PP;have HL:=ab (show G.length<=121 * 40/\bs.length<=60 * 40/\G.length<=121 * i/\bs.length<=60 * i from ⟨by omega,by omega,Dr,hl2⟩);clear hf hq FO hG PP Dr hl2 CR CM CO PT Oo KU HPN0 IZ PO;obtain ⟨b,off,tv,rfl,B9,c0,c1,c2,DG⟩:=HC.out i hlt;obtain ⟨⟨K,T,X⟩,hS⟩ : ∃ y,y=A.getD i za:=⟨_,rfl⟩;have Bd:=IM.out i hlt;rw [<-hS] at c0 c2 DG Bd;simp only at c0 c2 DG Bd;obtain ⟨ta,tc,rfl⟩:=DG.len;obtain ⟨tn,EW⟩:=ae (T.length);rw [<-EW] at c1 DG;have N3:=ab Bd;have EV:=ab c1;have IW:=ab c2;have KI:=ab B9;have bw:=zP;have hbs0:b<wq.heap.size:=Nat.lt_of_lt_of_le B9 bw.size;have c0:=(bw.cell (p:=⟨b,off+i * 3,none⟩) B9).trans c0;have c1:=(bw.cell (p:=⟨b,off+i * 3+1,none⟩) B9).trans c1;have c2:=(bw.cell (p:=⟨b,off+i * 3+2,none⟩) B9).trans c2;have HT:=ab ((DG.zone (Y:=fun x=>x<W.heap.size) (fun x hx _=>hx)).below bw);have HTN0:=ab EW;clear bw DG hS B9 EW Bd zP
   by_cases h60:60<tn
   ·have hd61:decide ((60:Int)<tn)=true:=ah (by omega);go_wp2;go_ret;exact ⟨zN,HB.out⟩
   have hd61:decide ((60:Int)<tn)=false:=ai (by omega);have Je:=ab (show T.length<=60 from by have:=HTN0.out;omega);clear HTN0
   go_upto_block 2 with fail
   go_cut [] from 55 to 97 (fun wx=>∃ (R1:List Rw) (p1:Pn) (G1 B1:List Int) (op1:Option Nat) (v gv bv:Value),FOn (fun _=>True) BB wx gp gg gr wd gf R1 p1 G1 (aF st0 B1) op1/\QBox wx gp gr gf gb R1 op1 p1 G1 B1 v gv bv/\Below W.heap.size W wx/\(PnOk wd ht p1/\AllV G1/\inBytes B1/\G1.length<=1000000/\B1.length<=1000000)/\G1.length<=121 * (i+1)/\B1.length<=60 * (i+1))
   case first =>
    by_cases D5:K=0
    ·
     have k0:(K == 0)=true:=by rw [beq_iff_eq];omega
     have DW:=ab (fV BB gp gg gr wd gf R p G (aF st0 bs) op (.slice ta tn tc) T wq HF.out.1 (xd K4.out) (HT.out.zone (fun x _ hx e=>Oy.out x hx (rE HF.out x e))) N3.out)
     go_wp2_with fail
     refine DW.out.mono ?_;rintro e w1 ⟨rfl,kg⟩;obtain ⟨R1,op1,f1,u1,b1,rf1,AD⟩:=HF.out.go kg;have q1:=HQ.out.go HF.out.1 u1 rf1 AD;have J2:=HB.out.trans (b1.mono MG.out);have LC:=HT.out.upd u1 (fun x hx e=>Oy.out x hx (rE HF.out x e));have hc1:=LC.zone (Y:=fun x=>¬ FW w1 gp gr gf R1 op1 x/\x≠gb) (fun x _ hx=>⟨fun e=>Oy.out x hx (rE f1 x e),fun e=>Oy.out x hx (by rw [e];exact HBG.out)⟩);have Ci:=fun w' hb=>q1.bytes (w1:=w') hb hc1 (by have:=HL.out.1;omega) (by have:=HL.out.2;have:=Je.out;omega) K4.out N3.out
     obtain ⟨p1,DJ⟩:=ae (p);obtain ⟨G1,Ew⟩:=ae (G++aA (aF st0 bs) T);obtain ⟨B1,DZ⟩:=ae (bs++T);have AN:=ab (show G1.length<=121 * (i+1)/\B1.length<=60 * (i+1) from by
      have h1:=iT (aF st0 bs) T;have h2:=HL.out;have h3:=Je.out;rw [Ew,DZ,List.length_append,List.length_append];omega)
     have DV:=ab (show PnOk wd ht p1/\AllV G1/\inBytes B1/\G1.length<=1000000/\B1.length<=1000000 from ⟨by rw [DJ];exact Jl.out,by rw [Ew];exact Oz.out.app (AllV.told K4.out N3.out),by rw [DZ];exact y9 K4.out N3.out,by have:=AN.out;omega,by have:=AN.out;omega⟩);rw [<-iC] at f1;rw [<-Ew,<-DZ] at f1 Ci;rw [show FOn (fun _=>True) BB w1 gp gg gr wd gf R1 p G1 (aF st0 B1) op1=FOn (fun _=>True) BB w1 gp gg gr wd gf R1 p1 G1 (aF st0 B1) op1 from by rw [DJ]] at f1;have Ci:∀ w' (_:Below w1.heap.size w1 w'),Calls Tryz.prog 33 #[.agg #[.slice vo nL vk,.int .i64 p.r,.int .i64 p.c,.bool p.pd,.bool p.au,.slice go1 nG gk,.slice bo nB bk,.int .i64 ((aA st0 bs).length:Nat)],.slice ta tn tc] w' (fun e w2=>∃ x,e=.returned x/\RQ w1 gp gr gf gb R1 op1 p1 G1 B1 x w2/\Below w'.heap.size w' w2):=by rw [DJ];exact Ci
     have JZ:=ab Ci;clear Ci hc1 LC Ew DZ DJ;have Q1:=ab q1;have F1:=ab f1;have Ka:=ab J2;clear q1 f1 J2 u1 b1 rf1 AD kg;clear DW;obtain ⟨A2,CE⟩ : ∃ CC:Array Bool->Value->World->Prop,CC=fun L8 x w'=>Below W.heap.size W w'/\(Mix.one L8 7=0->Below w1.heap.size w1 w')/\(Mix.one L8 6=1->Mix.one L8 7=0->RQ w1 gp gr gf gb R1 op1 p1 G1 B1 x w')/\(Mix.one L8 7=1->∃ v' gv' bv',QBox w' gp gr gf gb R1 op1 p1 G1 B1 v' gv' bv'/\FAt (fun _=>True) w' BB gp gg gr wd gf R1 p1 G1 (aF st0 B1) op1):=⟨_,rfl⟩
     obtain ⟨Fw,B7,Gd,DE⟩:=zJ.xT;obtain ⟨Ir,Er,Dk,CZ,De,C5,C7,Db,CY,DI⟩:=zJ.e8 Fw
      (fun xx _=>xx=.agg #[.slice vo nL vk,.int .i64 p.r,.int .i64 p.c,.bool p.pd,.bool p.au,.slice go1 nG gk,.slice bo nB bk,.int .i64 ((aA st0 bs).length:Nat)])
      (fun xx _=>xx=.slice (some ⟨b,off,none⟩) m ca)
      (fun xx _=>xx=.int .i64 i)
      (fun xx _=>xx=.pointer (some ⟨b,off+i * 3,none⟩))
      (fun xx _=>xx=.pointer (some ⟨b,off+i * 3+1,none⟩))
      (fun xx _=>xx=.slice ta tn tc)
      (fun x w'=>True)
      (fun xx _=>xx=undef)
      (s6:=fun x w w1 hx h=>by rw [B7] at hx;exact h)
     have Do:Hid (∀ i L {x:Value} w,(i == 6 || i == 7)=false ->  A2 L x w->A2 (L.setIfInBounds i true) x w):=ab (by
      intro i L x w q h;simp only [Bool.or_eq_false_iff,beq_eq_false_iff_ne] at q;rw [CE] at h ⊢;simp only [Mix.one_ne q.1,Mix.one_ne q.2];exact h)
     have EX:Hid (∀ L {x:Value} w w1,A2 L x w->Below w.heap.size w w1->A2 L x w1):=ab (by
      intro L x w w1 h hb;rw [CE] at h ⊢
      (obtain ⟨q1,q2,q3,q4⟩:=h;exact ⟨q1.trans (hb.mono q1.size),fun e=>(q2 e).trans (hb.mono (q2 e).size),fun e f=>(q3 e f).below (q2 f).size hb,fun e=>by obtain ⟨a1,a2,a3,h1,h2⟩:=q4 e;exact ⟨a1,a2,a3,h1.below h2 hb,h2.below hb⟩⟩))
     have Gn:=ab (show ∀ x,A2 (Array.replicate 8 false) x w1.drew from fun x=>by rw [CE];exact ⟨Ka.out.trans ((Below.refl w1.heap.size w1).drew.mono Ka.out.size),fun _=>(Below.refl _ _).drew,fun e=>absurd e (by decide),fun e=>absurd e (by decide)⟩);have Bc:=ab (fun (i:Nat) L {x:Value} w v q (h:A2 L x w) (e:Ir i v w)=>zJ.hk (Do.out i L w q h) e (Gd.out w));have AA:=ab CE;have Di:=ab B7;clear CE B7
     go_wp2_with fail
     refine RegC.regionF 6 Ir A2 Fw Er.out (by kernel_rfl) (by kernel_rfl) (by kernel_rfl) Gn.out (fun Frgb Ay=>?_);simp only [zJ.frame,zJ.dsts,List.map_cons,List.map_nil,Mix.put_lit,zJ.put_none,List.set_cons_succ,List.set_cons_zero,Nat.zero_add,Nat.reduceAdd] at Ay;refine ⟨⟨?_,?_,?_,?_,?_,?_,?_,?_,trivial⟩,?_⟩
     ·intro Lq wq xq hh;simp only [Ay];refine zJ.go rfl ?_;have hc:A2 Lq (xq 6) wq:=hh.cls;rw [AA.out] at hc;have hq:=Q1.out.hasAt F1.out.1 (hc.2.1 (Mix.one_un (hh.notYet 7 (by kernel_rfl))));have q0:=hq.cell 0 _ rfl;have q1:=hq.cell 1 _ rfl;have q2:=hq.cell 2 _ rfl;have q3:=hq.cell 3 _ rfl;have q4:=hq.cell 4 _ rfl;have q5:=hq.cell 5 _ rfl;have q6:=hq.cell 6 _ rfl;have q7:=hq.cell 7 _ rfl;clear hc;have HK:=Bc.out 0 _ _ _ rfl hh.cls ((Dk.out _ _).mpr rfl);go_simp;exact HK.out
     ·intro Lq wq xq hh;simp only [Ay];refine zJ.go rfl ?_;have HK:=Bc.out 1 _ _ _ rfl hh.cls ((CZ.out _ _).mpr rfl);go_simp;exact HK.out
     ·intro Lq wq xq hh;simp only [Ay];refine zJ.go rfl ?_;have HK:=Bc.out 2 _ _ _ rfl hh.cls ((De.out _ _).mpr rfl);go_simp;exact HK.out
     ·intro Lq wq xq hh;simp only [Ay,(CZ.out _ _).mp (hh.v 1),(De.out _ _).mp (hh.v 2)];refine zJ.go rfl ?_;have HK:=Bc.out 3 _ _ _ rfl hh.cls ((C5.out _ _).mpr rfl);go_simp;exact HK.out
     ·intro Lq wq xq hh;simp only [Ay,(C5.out _ _).mp (hh.v 3)];refine zJ.go rfl ?_;have HK:=Bc.out 4 _ _ _ rfl hh.cls ((C7.out _ _).mpr rfl);go_simp;exact HK.out
     ·intro Lq wq xq hh;simp only [Ay,(C7.out _ _).mp (hh.v 4)];refine zJ.go rfl ?_;have hc:A2 Lq (xq 6) wq:=hh.cls;rw [AA.out] at hc;have y0:=(hc.1.cell (p:=⟨b,off+i * 3+1,none⟩) KI.out).trans EV.out;clear hc;have HK:=Bc.out 5 _ _ _ rfl hh.cls ((Db.out _ _).mpr rfl);go_simp;exact HK.out
     ·intro Lq wq xq hh;simp only [Ay,(Dk.out _ _).mp (hh.v 0),(Db.out _ _).mp (hh.v 5)];refine zJ.go rfl ?_;unfold zJ.upon;have hc:A2 Lq (xq 6) wq:=hh.cls;rw [AA.out] at hc;have hb:=hc.2.1 (Mix.one_un (hh.notYet 7 (by kernel_rfl)));have PE:=JZ.out wq hb;go_simp;refine PE.mono ?_;rintro e w2 ⟨x,rfl,hr,b9⟩;have hF:A2 (Lq.setIfInBounds 6 true) x w2:=by
       rw [AA.out];refine ⟨hc.1.trans (b9.mono hc.1.size),fun _=>hb.trans (b9.mono hb.size),fun _ _=>hr,fun e=>?_⟩;rw [Mix.one_ne (by decide),Mix.one_un (hh.notYet 7 (by kernel_rfl))] at e;exact absurd e (by decide)
      exact ⟨_,rfl,hF,(by rw [CY.out];trivial),(by rw [Di.out];trivial)⟩
     ·intro Lq wq xq hh;have d6:=(CY.out _ _).mp (hh.v 6);simp only [Ay];refine zJ.go rfl ?_;unfold zJ.upon;have hc:A2 Lq (xq 6) wq:=hh.cls;rw [AA.out] at hc;have hb:=hc.2.1 hh.un;have hr:=hc.2.2.1 (hh.isDone 6 (by kernel_rfl)) hh.un;have Al:=Q1.out.hasAt F1.out.1 hb;have s0:=Al.cell 0 _ rfl;have s1:=Al.cell 1 _ rfl;have s2:=Al.cell 2 _ rfl;have s3:=Al.cell 3 _ rfl;have s4:=Al.cell 4 _ rfl;have s5:=Al.cell 5 _ rfl;have s6:=Al.cell 6 _ rfl;have s7:=Al.cell 7 _ rfl;have f0:=Al.free 0;have f1:=Al.free 1;have f2:=Al.free 2;have f3:=Al.free 3;have f4:=Al.free 4;have f5:=Al.free 5;have f6:=Al.free 6;have f7:=Al.free 7;obtain ⟨v',gv',bv',e1,q9,f9⟩:=QBox.store Q1.out F1.out.1 hb hr;obtain ⟨o9,k9,ev1⟩:=q9.2.1.len;obtain ⟨g9,l9,ev2⟩:=q9.2.2.1.len;obtain ⟨b0,j9,ev3⟩:=q9.2.2.2.len;obtain ⟨n9,Hu⟩:=ae (p1.L.length);obtain ⟨m9,JK⟩:=ae (G1.length);obtain ⟨h9,FR⟩:=ae (B1.length);rw [<-Hu] at ev1;rw [<-JK] at ev2;rw [<-FR] at ev3;subst ev1;subst ev2;subst ev3;clear Hu JK FR;have hF:A2 (Lq.setIfInBounds 7 true) (xq 6) ((((((((wq.setCell ⟨gb,0,none⟩ (.slice o9 n9 k9)).setCell ⟨gb,1,none⟩ (.int .i64 p1.r)).setCell ⟨gb,2,none⟩ (.int .i64 p1.c)).setCell ⟨gb,3,none⟩ (.bool p1.pd)).setCell ⟨gb,4,none⟩ (.bool p1.au)).setCell ⟨gb,5,none⟩ (.slice g9 m9 l9)).setCell ⟨gb,6,none⟩ (.slice b0 h9 j9)).setCell ⟨gb,7,none⟩ (.int .i64 ((aA st0 B1).length:Nat))):=by
       rw [AA.out];refine ⟨hc.1.trans ((db wq gb _ (.int .i64 p1.r) (.int .i64 p1.c) (.bool p1.pd) (.bool p1.au) _ _ (.int .i64 ((aA st0 B1).length:Nat))).below hc.1.size (fun x e=>by rw [e];exact CK.out)),fun e=>?_,fun _ e=>?_,fun _=>⟨_,_,_,q9,f9⟩⟩
       ·rw [Mix.one_set (by rw [hh.size];decide)] at e;exact absurd e (by decide)
       ·rw [Mix.one_set (by rw [hh.size];decide)] at e;exact absurd e (by decide)
      have hE:Ir 7 undef ((((((((wq.setCell ⟨gb,0,none⟩ (.slice o9 n9 k9)).setCell ⟨gb,1,none⟩ (.int .i64 p1.r)).setCell ⟨gb,2,none⟩ (.int .i64 p1.c)).setCell ⟨gb,3,none⟩ (.bool p1.pd)).setCell ⟨gb,4,none⟩ (.bool p1.au)).setCell ⟨gb,5,none⟩ (.slice g9 m9 l9)).setCell ⟨gb,6,none⟩ (.slice b0 h9 j9)).setCell ⟨gb,7,none⟩ (.int .i64 ((aA st0 B1).length:Nat))):=by rw [DI.out]
      have hX:Fw wq ((((((((wq.setCell ⟨gb,0,none⟩ (.slice o9 n9 k9)).setCell ⟨gb,1,none⟩ (.int .i64 p1.r)).setCell ⟨gb,2,none⟩ (.int .i64 p1.c)).setCell ⟨gb,3,none⟩ (.bool p1.pd)).setCell ⟨gb,4,none⟩ (.bool p1.au)).setCell ⟨gb,5,none⟩ (.slice g9 m9 l9)).setCell ⟨gb,6,none⟩ (.slice b0 h9 j9)).setCell ⟨gb,7,none⟩ (.int .i64 ((aA st0 B1).length:Nat))):=by rw [Di.out];trivial
      rw [e1];clear hc Al hb hr q9 f9;go_simp;exact ⟨hF,hE,hX⟩
     intro xq wrgb Ei JY;rw [AA.out] at Ei;simp only [Ay];clear JY Ay Bc Do Gd Er Gn AA Di EX DE Dk CZ De C5 C7 Db CY DI;obtain ⟨v2,gv2,Jn,Aw,hf2⟩:=Ei.2.2.2 (by kernel_rfl);have Jm:=ab Ei.1;obtain ⟨w5,EF⟩:=ae (wrgb);rw [<-EF] at Aw hf2 Jm;rw [<-EF];clear EF Ei JZ;have E3:=ab Aw;have IY:=ab (show FOn (fun _=>True) BB w5 gp gg gr wd gf R1 p1 G1 (aF st0 B1) op1 from ⟨hf2,F1.out.2.1,F1.out.2.2.1,Nat.le_trans hf2.2.gp_lt.1 (Nat.le_of_lt hf2.2.gp_lt.2)⟩);clear Aw hf2;go_wp2;go_meet
     case rel=>exact ⟨R1,p1,G1,B1,op1,v2,gv2,Jn,IY.out,E3.out,Jm.out,DV.out,AN.out⟩
    by_cases Jv:K=1
    ·
     have k0:(K == 0)=false:=by rw [beq_eq_false_iff_ne];omega
     have k1:(K == 1)=true:=by rw [beq_iff_eq];omega
     have DW:=ab (sf BB gp gg gr wd gf R p G (aF st0 bs) op X wq HF.out.1)
     go_wp2_with fail
     refine DW.out.mono ?_;rintro e w1 ⟨rfl,kg⟩;obtain ⟨R1,op1,f1,u1,b1,rf1,AD⟩:=HF.out.go kg;have q1:=HQ.out.go HF.out.1 u1 rf1 AD;have J2:=HB.out.trans (b1.mono MG.out);have Ci:=fun w' hb=>q1.rune (w1:=w') hb X (by have:=HL.out.1;omega)
     obtain ⟨p1,DJ⟩:=ae (p);obtain ⟨G1,Ew⟩:=ae (G++[aS X]);obtain ⟨B1,DZ⟩:=ae (bs);have AN:=ab (show G1.length<=121 * (i+1)/\B1.length<=60 * (i+1) from by
      have h2:=HL.out;rw [Ew,DZ,List.length_append];simp only [List.length_cons,List.length_nil];omega)
     have DV:=ab (show PnOk wd ht p1/\AllV G1/\inBytes B1/\G1.length<=1000000/\B1.length<=1000000 from ⟨by rw [DJ];exact Jl.out,by rw [Ew];exact Oz.out.app (AllV.one X),by rw [DZ];exact K4.out,by have:=AN.out;omega,by have:=AN.out;omega⟩);have f1:FOn (fun _=>True) BB w1 gp gg gr wd gf R1 p1 G1 (aF st0 B1) op1:=by rw [DJ,Ew,DZ];exact f1
     have Ci:∀ w' (_:Below w1.heap.size w1 w'),Calls Tryz.prog 34 #[.agg #[.slice vo nL vk,.int .i64 p.r,.int .i64 p.c,.bool p.pd,.bool p.au,.slice go1 nG gk,.slice bo nB bk,.int .i64 ((aA st0 bs).length:Nat)],.int .i32 X] w' (fun e w2=>∃ x,e=.returned x/\RQ w1 gp gr gf gb R1 op1 p1 G1 B1 x w2/\Below w'.heap.size w' w2):=by rw [DJ,Ew,DZ];exact Ci
     have JZ:=ab Ci;clear Ci Ew DZ DJ;have Q1:=ab q1;have F1:=ab f1;have Ka:=ab J2;clear q1 f1 J2 u1 b1 rf1 AD kg;clear DW;obtain ⟨DD,F4⟩ : ∃ CC:Array Bool->Value->World->Prop,CC=fun L8 x w'=>Below W.heap.size W w'/\(Mix.one L8 7=0->Below w1.heap.size w1 w')/\(Mix.one L8 6=1->Mix.one L8 7=0->RQ w1 gp gr gf gb R1 op1 p1 G1 B1 x w')/\(Mix.one L8 7=1->∃ v' gv' bv',QBox w' gp gr gf gb R1 op1 p1 G1 B1 v' gv' bv'/\FAt (fun _=>True) w' BB gp gg gr wd gf R1 p1 G1 (aF st0 B1) op1):=⟨_,rfl⟩
     obtain ⟨L6,Kc,Hrgrx,Hrgrxb⟩:=zJ.xT;obtain ⟨Mp,Hrgrst,GQ,Ij,Is,Hw,GX,GV,GW,Hrgre7⟩:=zJ.e8 L6
      (fun xx _=>xx=.agg #[.slice vo nL vk,.int .i64 p.r,.int .i64 p.c,.bool p.pd,.bool p.au,.slice go1 nG gk,.slice bo nB bk,.int .i64 ((aA st0 bs).length:Nat)])
      (fun xx _=>xx=.slice (some ⟨b,off,none⟩) m ca)
      (fun xx _=>xx=.int .i64 i)
      (fun xx _=>xx=.pointer (some ⟨b,off+i * 3,none⟩))
      (fun xx _=>xx=.pointer (some ⟨b,off+i * 3+2,none⟩))
      (fun xx _=>xx=.int .i32 X)
      (fun x w'=>True)
      (fun xx _=>xx=undef)
      (s6:=fun x w w1 hx h=>by rw [Kc] at hx;exact h)
     have Hrgrk:Hid (∀ i L {x:Value} w,(i == 6 || i == 7)=false ->  DD L x w->DD (L.setIfInBounds i true) x w):=ab (by
      intro i L x w q h;simp only [Bool.or_eq_false_iff,beq_eq_false_iff_ne] at q;rw [F4] at h ⊢;simp only [Mix.one_ne q.1,Mix.one_ne q.2];exact h)
     have Hrgrb:Hid (∀ L {x:Value} w w1,DD L x w->Below w.heap.size w w1->DD L x w1):=ab (by
      intro L x w w1 h hb;rw [F4] at h ⊢
      (obtain ⟨q1,q2,q3,q4⟩:=h;exact ⟨q1.trans (hb.mono q1.size),fun e=>(q2 e).trans (hb.mono (q2 e).size),fun e f=>(q3 e f).below (q2 f).size hb,fun e=>by obtain ⟨a1,a2,a3,h1,h2⟩:=q4 e;exact ⟨a1,a2,a3,h1.below h2 hb,h2.below hb⟩⟩))
     have Hrgrc:=ab (show ∀ x,DD (Array.replicate 8 false) x w1.drew from fun x=>by rw [F4];exact ⟨Ka.out.trans ((Below.refl w1.heap.size w1).drew.mono Ka.out.size),fun _=>(Below.refl _ _).drew,fun e=>absurd e (by decide),fun e=>absurd e (by decide)⟩);have Et:=ab (fun (i:Nat) L {x:Value} w v q (h:DD L x w) (e:Mp i v w)=>zJ.hk (Hrgrk.out i L w q h) e (Hrgrx.out w));have CB:=ab F4;have GZ:=ab Kc;clear F4 Kc
     go_wp2_with fail
     refine RegC.regionF 6 Mp DD L6 Hrgrst.out (by kernel_rfl) (by kernel_rfl) (by kernel_rfl) Hrgrc.out (fun Frgr Cm=>?_);simp only [zJ.frame,zJ.dsts,List.map_cons,List.map_nil,Mix.put_lit,zJ.put_none,List.set_cons_succ,List.set_cons_zero,Nat.zero_add,Nat.reduceAdd] at Cm;refine ⟨⟨?_,?_,?_,?_,?_,?_,?_,?_,trivial⟩,?_⟩
     ·intro Lq wq xq hh;simp only [Cm];refine zJ.go rfl ?_;have hc:DD Lq (xq 6) wq:=hh.cls;rw [CB.out] at hc;have hq:=Q1.out.hasAt F1.out.1 (hc.2.1 (Mix.one_un (hh.notYet 7 (by kernel_rfl))));have q0:=hq.cell 0 _ rfl;have q1:=hq.cell 1 _ rfl;have q2:=hq.cell 2 _ rfl;have q3:=hq.cell 3 _ rfl;have q4:=hq.cell 4 _ rfl;have q5:=hq.cell 5 _ rfl;have q6:=hq.cell 6 _ rfl;have q7:=hq.cell 7 _ rfl;clear hc;have HK:=Et.out 0 _ _ _ rfl hh.cls ((GQ.out _ _).mpr rfl);go_simp;exact HK.out
     ·intro Lq wq xq hh;simp only [Cm];refine zJ.go rfl ?_;have HK:=Et.out 1 _ _ _ rfl hh.cls ((Ij.out _ _).mpr rfl);go_simp;exact HK.out
     ·intro Lq wq xq hh;simp only [Cm];refine zJ.go rfl ?_;have HK:=Et.out 2 _ _ _ rfl hh.cls ((Is.out _ _).mpr rfl);go_simp;exact HK.out
     ·intro Lq wq xq hh;simp only [Cm,(Ij.out _ _).mp (hh.v 1),(Is.out _ _).mp (hh.v 2)];refine zJ.go rfl ?_;have HK:=Et.out 3 _ _ _ rfl hh.cls ((Hw.out _ _).mpr rfl);go_simp;exact HK.out
     ·intro Lq wq xq hh;simp only [Cm,(Hw.out _ _).mp (hh.v 3)];refine zJ.go rfl ?_;have HK:=Et.out 4 _ _ _ rfl hh.cls ((GX.out _ _).mpr rfl);go_simp;exact HK.out
     ·intro Lq wq xq hh;simp only [Cm,(GX.out _ _).mp (hh.v 4)];refine zJ.go rfl ?_;have hc:DD Lq (xq 6) wq:=hh.cls;rw [CB.out] at hc;have y0:=(hc.1.cell (p:=⟨b,off+i * 3+2,none⟩) KI.out).trans IW.out;clear hc;have HK:=Et.out 5 _ _ _ rfl hh.cls ((GV.out _ _).mpr rfl);go_simp;exact HK.out
     ·intro Lq wq xq hh;simp only [Cm,(GQ.out _ _).mp (hh.v 0),(GV.out _ _).mp (hh.v 5)];refine zJ.go rfl ?_;unfold zJ.upon;have hc:DD Lq (xq 6) wq:=hh.cls;rw [CB.out] at hc;have hb:=hc.2.1 (Mix.one_un (hh.notYet 7 (by kernel_rfl)));have PE:=JZ.out wq hb;go_simp;refine PE.mono ?_;rintro e w2 ⟨x,rfl,hr,b9⟩;have hF:DD (Lq.setIfInBounds 6 true) x w2:=by
       rw [CB.out];refine ⟨hc.1.trans (b9.mono hc.1.size),fun _=>hb.trans (b9.mono hb.size),fun _ _=>hr,fun e=>?_⟩;rw [Mix.one_ne (by decide),Mix.one_un (hh.notYet 7 (by kernel_rfl))] at e;exact absurd e (by decide)
      exact ⟨_,rfl,hF,(by rw [GW.out];trivial),(by rw [GZ.out];trivial)⟩
     ·intro Lq wq xq hh;have d6:=(GW.out _ _).mp (hh.v 6);simp only [Cm];refine zJ.go rfl ?_;unfold zJ.upon;have hc:DD Lq (xq 6) wq:=hh.cls;rw [CB.out] at hc;have hb:=hc.2.1 hh.un;have hr:=hc.2.2.1 (hh.isDone 6 (by kernel_rfl)) hh.un;have Al:=Q1.out.hasAt F1.out.1 hb;have s0:=Al.cell 0 _ rfl;have s1:=Al.cell 1 _ rfl;have s2:=Al.cell 2 _ rfl;have s3:=Al.cell 3 _ rfl;have s4:=Al.cell 4 _ rfl;have s5:=Al.cell 5 _ rfl;have s6:=Al.cell 6 _ rfl;have s7:=Al.cell 7 _ rfl;have f0:=Al.free 0;have f1:=Al.free 1;have f2:=Al.free 2;have f3:=Al.free 3;have f4:=Al.free 4;have f5:=Al.free 5;have f6:=Al.free 6;have f7:=Al.free 7;obtain ⟨v',gv',bv',e1,q9,f9⟩:=QBox.store Q1.out F1.out.1 hb hr;obtain ⟨o9,k9,ev1⟩:=q9.2.1.len;obtain ⟨g9,l9,ev2⟩:=q9.2.2.1.len;obtain ⟨b0,j9,ev3⟩:=q9.2.2.2.len;obtain ⟨n9,Hu⟩:=ae (p1.L.length);obtain ⟨m9,JK⟩:=ae (G1.length);obtain ⟨h9,FR⟩:=ae (B1.length);rw [<-Hu] at ev1;rw [<-JK] at ev2;rw [<-FR] at ev3;subst ev1;subst ev2;subst ev3;clear Hu JK FR;have hF:DD (Lq.setIfInBounds 7 true) (xq 6) ((((((((wq.setCell ⟨gb,0,none⟩ (.slice o9 n9 k9)).setCell ⟨gb,1,none⟩ (.int .i64 p1.r)).setCell ⟨gb,2,none⟩ (.int .i64 p1.c)).setCell ⟨gb,3,none⟩ (.bool p1.pd)).setCell ⟨gb,4,none⟩ (.bool p1.au)).setCell ⟨gb,5,none⟩ (.slice g9 m9 l9)).setCell ⟨gb,6,none⟩ (.slice b0 h9 j9)).setCell ⟨gb,7,none⟩ (.int .i64 ((aA st0 B1).length:Nat))):=by
       rw [CB.out];refine ⟨hc.1.trans ((db wq gb _ (.int .i64 p1.r) (.int .i64 p1.c) (.bool p1.pd) (.bool p1.au) _ _ (.int .i64 ((aA st0 B1).length:Nat))).below hc.1.size (fun x e=>by rw [e];exact CK.out)),fun e=>?_,fun _ e=>?_,fun _=>⟨_,_,_,q9,f9⟩⟩
       ·rw [Mix.one_set (by rw [hh.size];decide)] at e;exact absurd e (by decide)
       ·rw [Mix.one_set (by rw [hh.size];decide)] at e;exact absurd e (by decide)
      have hE:Mp 7 undef ((((((((wq.setCell ⟨gb,0,none⟩ (.slice o9 n9 k9)).setCell ⟨gb,1,none⟩ (.int .i64 p1.r)).setCell ⟨gb,2,none⟩ (.int .i64 p1.c)).setCell ⟨gb,3,none⟩ (.bool p1.pd)).setCell ⟨gb,4,none⟩ (.bool p1.au)).setCell ⟨gb,5,none⟩ (.slice g9 m9 l9)).setCell ⟨gb,6,none⟩ (.slice b0 h9 j9)).setCell ⟨gb,7,none⟩ (.int .i64 ((aA st0 B1).length:Nat))):=by rw [Hrgre7.out]
      have hX:L6 wq ((((((((wq.setCell ⟨gb,0,none⟩ (.slice o9 n9 k9)).setCell ⟨gb,1,none⟩ (.int .i64 p1.r)).setCell ⟨gb,2,none⟩ (.int .i64 p1.c)).setCell ⟨gb,3,none⟩ (.bool p1.pd)).setCell ⟨gb,4,none⟩ (.bool p1.au)).setCell ⟨gb,5,none⟩ (.slice g9 m9 l9)).setCell ⟨gb,6,none⟩ (.slice b0 h9 j9)).setCell ⟨gb,7,none⟩ (.int .i64 ((aA st0 B1).length:Nat))):=by rw [GZ.out];trivial
      rw [e1];clear hc Al hb hr q9 f9;go_simp;exact ⟨hF,hE,hX⟩
     intro xq wrgr IP hvrgr;rw [CB.out] at IP;simp only [Cm];clear hvrgr Cm Et Hrgrk Hrgrx Hrgrst Hrgrc CB GZ Hrgrb Hrgrxb GQ Ij Is Hw GX GV GW Hrgre7;obtain ⟨v2,gv2,Jn,Aw,hf2⟩:=IP.2.2.2 (by kernel_rfl);have Jm:=ab IP.1;obtain ⟨w5,EF⟩:=ae (wrgr);rw [<-EF] at Aw hf2 Jm;rw [<-EF];clear EF IP JZ;have E3:=ab Aw;have IY:=ab (show FOn (fun _=>True) BB w5 gp gg gr wd gf R1 p1 G1 (aF st0 B1) op1 from ⟨hf2,F1.out.2.1,F1.out.2.2.1,Nat.le_trans hf2.2.gp_lt.1 (Nat.le_of_lt hf2.2.gp_lt.2)⟩);clear Aw hf2;go_wp2;go_meet
     case rel=>exact ⟨R1,p1,G1,B1,op1,v2,gv2,Jn,IY.out,E3.out,Jm.out,DV.out,AN.out⟩
    by_cases hk2:K=2
    ·
     have k0:(K == 0)=false:=by rw [beq_eq_false_iff_ne];omega
     have k1:(K == 1)=false:=by rw [beq_eq_false_iff_ne];omega
     have k2:(K == 2)=true:=by rw [beq_iff_eq];omega
     have DW:=ab (xF BB gp gg gr wd gf R p G (aF st0 bs) op wq HF.out.1 (xd K4.out))
     go_wp2_with fail
     refine DW.out.mono ?_;rintro e w1 ⟨rfl,kg⟩;obtain ⟨R1,op1,f1,u1,b1,rf1,AD⟩:=HF.out.go kg;have q1:=HQ.out.go HF.out.1 u1 rf1 AD;have J2:=HB.out.trans (b1.mono MG.out);have Ci:=fun w' hb=>q1.flush (ht:=ht) (w1:=w') hb DX.out Jl.out (by have:=HL.out.1;omega) Oz.out (by have:=HL.out.2;omega) K4.out
     obtain ⟨p1,DJ⟩:=ae (bH wd p (bj (G++flT (aF st0 bs))));obtain ⟨G1,Ew⟩ : ∃ G1:List Int,G1=[]:=⟨_,rfl⟩;obtain ⟨B1,DZ⟩ : ∃ B1:List Int,B1=[]:=⟨_,rfl⟩;have AN:=ab (show G1.length<=121 * (i+1)/\B1.length<=60 * (i+1) from by
      rw [Ew,DZ];simp only [List.length_nil];omega)
     have DV:=ab (show PnOk wd ht p1/\AllV G1/\inBytes B1/\G1.length<=1000000/\B1.length<=1000000 from ⟨by rw [DJ];exact Jl.out.lay DX.out _ ,by rw [Ew];exact AllV.nil,by rw [DZ];exact xb,by have:=AN.out;omega,by have:=AN.out;omega⟩);have f1:FOn (fun _=>True) BB w1 gp gg gr wd gf R1 p1 G1 (aF st0 B1) op1:=by rw [DJ,Ew,DZ];exact f1
     have Ci:∀ w' (_:Below w1.heap.size w1 w'),Calls Tryz.prog 35 #[.agg #[.slice vo nL vk,.int .i64 p.r,.int .i64 p.c,.bool p.pd,.bool p.au,.slice go1 nG gk,.slice bo nB bk,.int .i64 ((aA st0 bs).length:Nat)]] w' (fun e w2=>∃ x,e=.returned x/\RQ w1 gp gr gf gb R1 op1 p1 G1 B1 x w2/\Below w'.heap.size w' w2):=by rw [DJ,Ew,DZ];exact Ci
     have JZ:=ab Ci;clear Ci Ew DZ DJ;have Q1:=ab q1;have F1:=ab f1;have Ka:=ab J2;clear q1 f1 J2 u1 b1 rf1 AD kg;clear DW;have Al:=Q1.out.1;have q0:=Al.cell 0 _ rfl;have q1:=Al.cell 1 _ rfl;have q2:=Al.cell 2 _ rfl;have q3:=Al.cell 3 _ rfl;have q4:=Al.cell 4 _ rfl;have q5:=Al.cell 5 _ rfl;have q6:=Al.cell 6 _ rfl;have q7:=Al.cell 7 _ rfl;clear Al
     go_wp2_with fail
     refine (JZ.out w1 (Below.refl _ _)).mono ?_;rintro e w2 ⟨x,rfl,hr,b2⟩;obtain ⟨v',gv',bv',e1,q9,f9⟩:=QBox.store Q1.out F1.out.1 b2 hr;obtain ⟨o9,k9,ev1⟩:=q9.2.1.len;obtain ⟨g9,l9,ev2⟩:=q9.2.2.1.len;obtain ⟨b0,j9,ev3⟩:=q9.2.2.2.len;obtain ⟨n9,Hu⟩:=ae (p1.L.length);obtain ⟨m9,JK⟩:=ae (G1.length);obtain ⟨h9,FR⟩:=ae (B1.length);rw [<-Hu] at ev1;rw [<-JK] at ev2;rw [<-FR] at ev3;subst ev1;subst ev2;subst ev3;clear Hu JK FR;subst e1;have Al:=Q1.out.hasAt F1.out.1 b2;clear q0 q1 q2 q3 q4 q5 q6 q7;have s0:=Al.cell 0 _ rfl;have s1:=Al.cell 1 _ rfl;have s2:=Al.cell 2 _ rfl;have s3:=Al.cell 3 _ rfl;have s4:=Al.cell 4 _ rfl;have s5:=Al.cell 5 _ rfl;have s6:=Al.cell 6 _ rfl;have s7:=Al.cell 7 _ rfl;have f0:=Al.free 0;have f1:=Al.free 1;have f2:=Al.free 2;have f3:=Al.free 3;have f4:=Al.free 4;have f5:=Al.free 5;have f6:=Al.free 6;have f7:=Al.free 7;obtain ⟨w5,EF⟩:=ae (((((((((w2.setCell ⟨gb,0,none⟩ (.slice o9 n9 k9)).setCell ⟨gb,1,none⟩ (.int .i64 p1.r)).setCell ⟨gb,2,none⟩ (.int .i64 p1.c)).setCell ⟨gb,3,none⟩ (.bool p1.pd)).setCell ⟨gb,4,none⟩ (.bool p1.au)).setCell ⟨gb,5,none⟩ (.slice g9 m9 l9)).setCell ⟨gb,6,none⟩ (.slice b0 h9 j9)).setCell ⟨gb,7,none⟩ (.int .i64 ((aA st0 B1).length:Nat))));obtain ⟨v2,gv2,Jn,Aw⟩ : ∃ v2 gv2 Jn,QBox w5 gp gr gf gb R1 op1 p1 G1 B1 v2 gv2 Jn:=⟨_,_,_,by rw [EF];exact q9⟩;have hf2:FAt (fun _=>True) w5 BB gp gg gr wd gf R1 p1 G1 (aF st0 B1) op1:=by rw [EF];exact f9
     have Jm:=ab (show Below W.heap.size W w5 from by
      have k1:=Ka.out.trans (b2.mono Ka.out.size);rw [EF];exact k1.trans ((db w2 gb _ (.int .i64 p1.r) (.int .i64 p1.c) (.bool p1.pd) (.bool p1.au) _ _ (.int .i64 ((aA st0 B1).length:Nat))).below k1.size (fun x e=>by rw [e];exact CK.out)))
     have Dl:=ab EF;clear Al hr b2 q9 f9 EF JZ;have E3:=ab Aw;have IY:=ab (show FOn (fun _=>True) BB w5 gp gg gr wd gf R1 p1 G1 (aF st0 B1) op1 from ⟨hf2,F1.out.2.1,F1.out.2.2.1,Nat.le_trans hf2.2.gp_lt.1 (Nat.le_of_lt hf2.2.gp_lt.2)⟩);clear Aw hf2;go_wp2;go_meet
     case rel =>
      rw [<-Dl.out];exact ⟨R1,p1,G1,B1,op1,v2,gv2,Jn,IY.out,E3.out,Jm.out,DV.out,AN.out⟩
    have k0:(K == 0)=false:=by rw [beq_eq_false_iff_ne];omega
    have k1:(K == 1)=false:=by rw [beq_eq_false_iff_ne];omega
    have k2:(K == 2)=false:=by rw [beq_eq_false_iff_ne];omega
    have DW:=ab (mn HF.out.1)
    go_wp2_with fail
    refine DW.out.mono ?_;rintro e w1 ⟨rfl,kg⟩;obtain ⟨R1,op1,f1,u1,b1,rf1,AD⟩:=HF.out.go kg;have q1:=HQ.out.go HF.out.1 u1 rf1 AD;have J2:=HB.out.trans (b1.mono MG.out);have Ci:=fun w' hb=>q1.close (ht:=ht) (w1:=w') hb DX.out Jl.out (by have:=HL.out.1;omega) Oz.out
    obtain ⟨p1,DJ⟩:=ae (bH wd p (bj G));obtain ⟨G1,Ew⟩ : ∃ G1:List Int,G1=[]:=⟨_,rfl⟩;obtain ⟨B1,DZ⟩:=ae (bs);have AN:=ab (show G1.length<=121 * (i+1)/\B1.length<=60 * (i+1) from by
     have h2:=HL.out;rw [Ew,DZ];simp only [List.length_nil];omega)
    have DV:=ab (show PnOk wd ht p1/\AllV G1/\inBytes B1/\G1.length<=1000000/\B1.length<=1000000 from ⟨by rw [DJ];exact Jl.out.lay DX.out _ ,by rw [Ew];exact AllV.nil,by rw [DZ];exact K4.out,by have:=AN.out;omega,by have:=AN.out;omega⟩);have f1:FOn (fun _=>True) BB w1 gp gg gr wd gf R1 p1 G1 (aF st0 B1) op1:=by rw [DJ,Ew,DZ];exact f1
    have Ci:∀ w' (_:Below w1.heap.size w1 w'),Calls Tryz.prog 36 #[.agg #[.slice vo nL vk,.int .i64 p.r,.int .i64 p.c,.bool p.pd,.bool p.au,.slice go1 nG gk,.slice bo nB bk,.int .i64 ((aA st0 bs).length:Nat)]] w' (fun e w2=>∃ x,e=.returned x/\RQ w1 gp gr gf gb R1 op1 p1 G1 B1 x w2/\Below w'.heap.size w' w2):=by rw [DJ,Ew,DZ];exact Ci
    have JZ:=ab Ci;clear Ci Ew DZ DJ;have Q1:=ab q1;have F1:=ab f1;have Ka:=ab J2;clear q1 f1 J2 u1 b1 rf1 AD kg;clear DW;have Al:=Q1.out.1;have q0:=Al.cell 0 _ rfl;have q1:=Al.cell 1 _ rfl;have q2:=Al.cell 2 _ rfl;have q3:=Al.cell 3 _ rfl;have q4:=Al.cell 4 _ rfl;have q5:=Al.cell 5 _ rfl;have q6:=Al.cell 6 _ rfl;have q7:=Al.cell 7 _ rfl;clear Al
    go_wp2_with fail
    refine (JZ.out w1 (Below.refl _ _)).mono ?_;rintro e w2 ⟨x,rfl,hr,b2⟩;obtain ⟨v',gv',bv',e1,q9,f9⟩:=QBox.store Q1.out F1.out.1 b2 hr;obtain ⟨o9,k9,ev1⟩:=q9.2.1.len;obtain ⟨g9,l9,ev2⟩:=q9.2.2.1.len;obtain ⟨b0,j9,ev3⟩:=q9.2.2.2.len;obtain ⟨n9,Hu⟩:=ae (p1.L.length);obtain ⟨m9,JK⟩:=ae (G1.length);obtain ⟨h9,FR⟩:=ae (B1.length);rw [<-Hu] at ev1;rw [<-JK] at ev2;rw [<-FR] at ev3;subst ev1;subst ev2;subst ev3;clear Hu JK FR;subst e1;have Al:=Q1.out.hasAt F1.out.1 b2;clear q0 q1 q2 q3 q4 q5 q6 q7;have s0:=Al.cell 0 _ rfl;have s1:=Al.cell 1 _ rfl;have s2:=Al.cell 2 _ rfl;have s3:=Al.cell 3 _ rfl;have s4:=Al.cell 4 _ rfl;have s5:=Al.cell 5 _ rfl;have s6:=Al.cell 6 _ rfl;have s7:=Al.cell 7 _ rfl;have f0:=Al.free 0;have f1:=Al.free 1;have f2:=Al.free 2;have f3:=Al.free 3;have f4:=Al.free 4;have f5:=Al.free 5;have f6:=Al.free 6;have f7:=Al.free 7;obtain ⟨w5,EF⟩:=ae (((((((((w2.setCell ⟨gb,0,none⟩ (.slice o9 n9 k9)).setCell ⟨gb,1,none⟩ (.int .i64 p1.r)).setCell ⟨gb,2,none⟩ (.int .i64 p1.c)).setCell ⟨gb,3,none⟩ (.bool p1.pd)).setCell ⟨gb,4,none⟩ (.bool p1.au)).setCell ⟨gb,5,none⟩ (.slice g9 m9 l9)).setCell ⟨gb,6,none⟩ (.slice b0 h9 j9)).setCell ⟨gb,7,none⟩ (.int .i64 ((aA st0 B1).length:Nat))));obtain ⟨v2,gv2,Jn,Aw⟩ : ∃ v2 gv2 Jn,QBox w5 gp gr gf gb R1 op1 p1 G1 B1 v2 gv2 Jn:=⟨_,_,_,by rw [EF];exact q9⟩;have hf2:FAt (fun _=>True) w5 BB gp gg gr wd gf R1 p1 G1 (aF st0 B1) op1:=by rw [EF];exact f9
    have Jm:=ab (show Below W.heap.size W w5 from by
     have k1:=Ka.out.trans (b2.mono Ka.out.size);rw [EF];exact k1.trans ((db w2 gb _ (.int .i64 p1.r) (.int .i64 p1.c) (.bool p1.pd) (.bool p1.au) _ _ (.int .i64 ((aA st0 B1).length:Nat))).below k1.size (fun x e=>by rw [e];exact CK.out)))
    have Dl:=ab EF;clear Al hr b2 q9 f9 EF JZ;have E3:=ab Aw;have IY:=ab (show FOn (fun _=>True) BB w5 gp gg gr wd gf R1 p1 G1 (aF st0 B1) op1 from ⟨hf2,F1.out.2.1,F1.out.2.2.1,Nat.le_trans hf2.2.gp_lt.1 (Nat.le_of_lt hf2.2.gp_lt.2)⟩);clear Aw hf2;go_wp2;go_meet
    case rel =>
     rw [<-Dl.out];exact ⟨R1,p1,G1,B1,op1,v2,gv2,Jn,IY.out,E3.out,Jm.out,DV.out,AN.out⟩
   case rest =>
    obtain ⟨R1,p1,G1,B1,op1,v2,gv2,Jn,O1,Aw,hbc,DJ,Cg⟩:=hcut;obtain ⟨w5,DU⟩:=ae (wc);subst DU;have hf2:=O1.1;have IY:=ab O1;have Jm:=ab hbc;have DV:=ab DJ;have AN:=ab Cg;clear O1 hbc DJ Cg;obtain ⟨vo2,vk2,rfl⟩:=Aw.2.1.len;obtain ⟨go2,gk2,rfl⟩:=Aw.2.2.1.len;obtain ⟨PD,Pe,rfl⟩:=Aw.2.2.2.len;obtain ⟨nL2,hnL2⟩:=ae (p1.L.length);obtain ⟨nG2,hnG2⟩:=ae (G1.length);obtain ⟨nB2,hnB2⟩:=ae (B1.length);rw [<-hnL2,<-hnG2,<-hnB2] at Aw;have E3:=ab Aw;obtain ⟨Q,hQ⟩:=ae (bH wd p1 (bj G1));have Ni:=ab (fun w' hb=>QBox.pen (ht:=ht) Aw (w1:=w') hb DX.out DV.out.1 DV.out.2.2.2.1 DV.out.2.1);rw [<-hQ] at Ni;have HPN2:=ab (show ∃ Yo,xH Yo w5 BB gp gg gr wd R1 Q from by obtain ⟨Yo,_,h⟩:=hf2.2.pen;rw [hQ];exact ⟨Yo,h⟩);have FL:=ab (fun w' hb=>QBox.held Aw (w1:=w') hb DV.out.2.2.2.2 DV.out.2.2.1);have HFH:=ab (fun w' (hb:Below w5.heap.size w5 w')=>ml (hf2.below hb));obtain ⟨IG,hhh⟩:=ae ((aF st0 B1).2.2);rw [<-hhh] at FL HFH;have LT:=ab (fun w' hb=>QBox.openG Aw (w1:=w') hb DV.out.2.2.2.1 DV.out.2.1);have HFO:=ab (fun w' (hb:Below w5.heap.size w5 w')=>mm (hf2.below hb));obtain ⟨OT,Pu⟩:=ae (eI G1);have HOT:=ab (show OT.length<=1000000 from by rw [Pu];exact open_short DV.out.2.2.2.1);rw [<-Pu] at LT HFO;clear Aw hf2 hnL2 hnG2 hnB2 hQ hhh Pu
    go_upto_region 24 with (fail)
    obtain ⟨Cd,Gp⟩ : ∃ CC:Array Bool->World->Prop,CC=fun L8 w'=>Below w5.heap.size w5 w':=⟨_,rfl⟩
    obtain ⟨Xrgz,Gb,JB,Dg⟩:=zJ.xB;obtain ⟨Ergz,Hrgzst,Hy,It,GE,Hb,Ha,Cp,IC,Iy,If,GJ,Fs,FH,Bi,FC,Ff,Fk,E2,Ft,Fq,E7⟩:=zJ.e20 Xrgz
     (fun xx _=>xx=.pointer (some ⟨gp,0,none⟩))
     (fun xx _=>xx=.agg #[.slice vo2 nL2 vk2,.int .i64 p1.r,.int .i64 p1.c,.bool p1.pd,.bool p1.au,.slice go2 nG2 gk2,.slice PD nB2 Pe,.int .i64 ((aA st0 B1).length:Nat)])
     (fun x w'=>∃ v',x=.agg #[v',.int .i64 Q.r,.int .i64 Q.c,.bool Q.pd,.bool Q.au]/\HeldE lineE (fun _=>True) w' v' Q.L)
     (fun xx _=>xx=.bool true)
     (fun xx _=>xx=.bool false)
     (fun xx _=>xx=.bool false)
     (fun xx _=>xx=.pointer (some ⟨gf,0,none⟩))
     (fun xx _=>xx=.int .i64 IG)
     (fun xx _=>xx=.agg #[.slice vo2 nL2 vk2,.int .i64 p1.r,.int .i64 p1.c,.bool p1.pd,.bool p1.au,.slice go2 nG2 gk2,.slice PD nB2 Pe,.int .i64 ((aA st0 B1).length:Nat)])
     (fun xx _=>xx=.int .i64 IG)
     (fun xx _=>xx=.bool false)
     (fun xx _=>xx=.bool false)
     (fun xx _=>xx=.bool false)
     (fun xx _=>xx=.pointer (some ⟨gf,0,none⟩))
     (fun x w'=>HeldE (aE .i32) (fun _=>True) w' x OT)
     (fun xx _=>xx=.agg #[.slice vo2 nL2 vk2,.int .i64 p1.r,.int .i64 p1.c,.bool p1.pd,.bool p1.au,.slice go2 nG2 gk2,.slice PD nB2 Pe,.int .i64 ((aA st0 B1).length:Nat)])
     (fun x w'=>HeldE (aE .i32) (fun _=>True) w' x OT)
     (fun xx _=>xx=.bool true)
     (fun xx _=>xx=.bool false)
     (fun xx _=>xx=.bool false)
     (s2:=fun x w w1 hx h=>by rw [Gb] at hx;first | exact HeldE.below h hx | (obtain ⟨v,e,h⟩:=h;exact ⟨v,e,h.below hx⟩))
     (s14:=fun x w w1 hx h=>by rw [Gb] at hx;first | exact HeldE.below h hx | (obtain ⟨v,e,h⟩:=h;exact ⟨v,e,h.below hx⟩))
     (s16:=fun x w w1 hx h=>by rw [Gb] at hx;first | exact HeldE.below h hx | (obtain ⟨v,e,h⟩:=h;exact ⟨v,e,h.below hx⟩))
    have Dx:Hid (∀ i L w, Cd L w->Cd (L.setIfInBounds i true) w):=ab (by
     intro i L w h;rw [Gp] at h ⊢;exact h)
    have Eg:Hid (∀ L w w1,Cd L w->Below w.heap.size w w1->Cd L w1):=ab (by
     intro L w w1 h hb;rw [Gp] at h ⊢;exact h.trans (hb.mono h.size))
    have Hrgzc:=ab (show Cd (Array.replicate 20 false) w5.drew from by rw [Gp];exact (Below.refl _ _).drew);have BH:=ab (fun (i:Nat) L w v (h:Cd L w) (e:Ergz i v w)=>zJ.hk (Dx.out i L w h) e (JB.out w));have A6:=ab Gp;have HrgzhX:=ab Gb;clear Gp Gb
    go_wp2_with fail
    refine zJ.regionF Ergz Cd Xrgz Hrgzst.out (by kernel_rfl) (by kernel_rfl) (by kernel_rfl) Hrgzc.out (fun Frgz AK=>?_);simp only [zJ.frame,zJ.dsts,List.map_cons,List.map_nil,Mix.put_lit,List.set_cons_succ,List.set_cons_zero,Nat.zero_add,Nat.reduceAdd] at AK;refine ⟨⟨?_,?_,?_,?_,?_,?_,?_,?_,?_,?_,?_,?_,?_,?_,?_,?_,?_,?_,?_,?_,trivial⟩,?_⟩
    ·intro Lq wq xq hh;simp only [AK];refine zJ.go rfl ?_;have HK:=BH.out 0 _ _ _ hh.cls ((Hy.out _ _).mpr rfl);go_simp;exact HK.out
    ·intro Lq wq xq hh;simp only [AK];refine zJ.go rfl ?_;have hc:Cd Lq wq:=hh.cls;rw [A6.out] at hc;have hq:=E3.out.hasAt IY.out.1 hc;have q0:=hq.cell 0 _ rfl;have q1:=hq.cell 1 _ rfl;have q2:=hq.cell 2 _ rfl;have q3:=hq.cell 3 _ rfl;have q4:=hq.cell 4 _ rfl;have q5:=hq.cell 5 _ rfl;have q6:=hq.cell 6 _ rfl;have q7:=hq.cell 7 _ rfl;clear hc;have HK:=BH.out 1 _ _ _ hh.cls ((It.out _ _).mpr rfl);go_simp;exact HK.out
    ·intro Lq wq xq hh;simp only [AK,(It.out _ _).mp (hh.v 1)];refine zJ.go rfl ?_;unfold zJ.upon;have hc:Cd Lq wq:=hh.cls;rw [A6.out] at hc;have M5:=Ni.out wq hc;go_simp;refine M5.mono ?_;rintro e w2 ⟨x,rfl,hx,hb⟩;exact ⟨_,rfl,Dx.out 2 Lq w2  (Eg.out Lq wq w2 hh.cls hb),(by rw [GE.out];exact hx),Dg.out wq w2 hb⟩
    ·intro Lq wq xq hh;have d2:=(GE.out _ _).mp (hh.v 2);simp only [AK,(Hy.out _ _).mp (hh.v 0)];refine zJ.go rfl ?_;unfold zJ.upon;have hc:Cd Lq wq:=hh.cls;rw [A6.out] at hc;obtain ⟨v',ev,hv'⟩:=d2;obtain ⟨Yo,hp⟩:=HPN2.out;have Jg:=tT BB gp gg gr wd R1 Q.L Q.r Q.c Q.pd Q.au _ v' wq (hp.any.below hc) hv';rw [ev];go_simp;refine Jg.mono ?_;rintro e w2 ⟨rfl,hb⟩;exact ⟨_,rfl,Dx.out 3 Lq w2  (Eg.out Lq wq w2 hh.cls hb),(by rw [Hb.out]),Dg.out wq w2 hb⟩
    ·intro Lq wq xq hh;simp only [AK,(Hb.out _ _).mp (hh.v 3)];refine zJ.go rfl ?_;have HK:=BH.out 4 _ _ _ hh.cls ((Ha.out _ _).mpr rfl);go_simp;exact HK.out
    ·intro Lq wq xq hh;simp only [AK,(Ha.out _ _).mp (hh.v 4)];refine zJ.go rfl ?_;have HK:=BH.out 5 _ _ _ hh.cls ((Cp.out _ _).mpr rfl);go_simp;exact HK.out
    ·intro Lq wq xq hh;simp only [AK,(Cp.out _ _).mp (hh.v 5)];refine zJ.go rfl ?_;have HK:=BH.out 6 _ _ _ hh.cls ((IC.out _ _).mpr rfl);go_simp;exact HK.out
    ·intro Lq wq xq hh;simp only [AK,(Cp.out _ _).mp (hh.v 5),(IC.out _ _).mp (hh.v 6)];refine zJ.go rfl ?_;unfold zJ.upon;have hc:Cd Lq wq:=hh.cls;rw [A6.out] at hc;go_simp;refine (HFH.out wq hc).mono ?_;rintro e w2 ⟨rfl,rfl⟩;exact ⟨_,rfl,Dx.out 7 Lq wq  hh.cls,(by rw [Iy.out];try rfl),JB.out _⟩
    ·intro Lq wq xq hh;simp only [AK,(Cp.out _ _).mp (hh.v 5)];refine zJ.go rfl ?_;have hc:Cd Lq wq:=hh.cls;rw [A6.out] at hc;have hq:=E3.out.hasAt IY.out.1 hc;have q0:=hq.cell 0 _ rfl;have q1:=hq.cell 1 _ rfl;have q2:=hq.cell 2 _ rfl;have q3:=hq.cell 3 _ rfl;have q4:=hq.cell 4 _ rfl;have q5:=hq.cell 5 _ rfl;have q6:=hq.cell 6 _ rfl;have q7:=hq.cell 7 _ rfl;clear hc;have HK:=BH.out 8 _ _ _ hh.cls ((If.out _ _).mpr rfl);go_simp;exact HK.out
    ·intro Lq wq xq hh;simp only [AK,(Cp.out _ _).mp (hh.v 5),(If.out _ _).mp (hh.v 8)];refine zJ.go rfl ?_;unfold zJ.upon;have hc:Cd Lq wq:=hh.cls;rw [A6.out] at hc;go_simp;refine (FL.out wq hc).mono ?_;rintro e w2 ⟨rfl,hb⟩;exact ⟨_,rfl,Dx.out 9 Lq w2  (Eg.out Lq wq w2 hh.cls hb),(by rw [GJ.out];try rfl),Dg.out wq w2 hb⟩
    ·intro Lq wq xq hh;simp only [AK,(Cp.out _ _).mp (hh.v 5),(Iy.out _ _).mp (hh.v 7),(GJ.out _ _).mp (hh.v 9)];refine zJ.go rfl ?_;have hc:Cd Lq wq:=hh.cls;rw [A6.out] at hc;have q1:(IG != IG)=false:=by simp
     clear hc;have HK:=BH.out 10 _ _ _ hh.cls ((Fs.out _ _).mpr rfl);go_simp;exact HK.out
    ·intro Lq wq xq hh;simp only [AK,(Cp.out _ _).mp (hh.v 5),(Fs.out _ _).mp (hh.v 10)];refine zJ.go rfl ?_;have HK:=BH.out 11 _ _ _ hh.cls ((FH.out _ _).mpr rfl);go_simp;exact HK.out
    ·intro Lq wq xq hh;simp only [AK,(FH.out _ _).mp (hh.v 11)];refine zJ.go rfl ?_;have HK:=BH.out 12 _ _ _ hh.cls ((Bi.out _ _).mpr rfl);go_simp;exact HK.out
    ·intro Lq wq xq hh;simp only [AK,(Bi.out _ _).mp (hh.v 12)];refine zJ.go rfl ?_;have HK:=BH.out 13 _ _ _ hh.cls ((FC.out _ _).mpr rfl);go_simp;exact HK.out
    ·intro Lq wq xq hh;simp only [AK,(Bi.out _ _).mp (hh.v 12),(FC.out _ _).mp (hh.v 13)];refine zJ.go rfl ?_;unfold zJ.upon;have hc:Cd Lq wq:=hh.cls;rw [A6.out] at hc;have M5:=HFO.out wq hc;go_simp;refine M5.mono ?_;rintro e w2 ⟨x,rfl,hx,hb⟩;exact ⟨_,rfl,Dx.out 14 Lq w2  (Eg.out Lq wq w2 hh.cls hb),(by rw [Ff.out];exact hx.zone fun _ _ _=>trivial),Dg.out wq w2 hb⟩
    ·intro Lq wq xq hh;simp only [AK,(Bi.out _ _).mp (hh.v 12)];refine zJ.go rfl ?_;have hc:Cd Lq wq:=hh.cls;rw [A6.out] at hc;have hq:=E3.out.hasAt IY.out.1 hc;have q0:=hq.cell 0 _ rfl;have q1:=hq.cell 1 _ rfl;have q2:=hq.cell 2 _ rfl;have q3:=hq.cell 3 _ rfl;have q4:=hq.cell 4 _ rfl;have q5:=hq.cell 5 _ rfl;have q6:=hq.cell 6 _ rfl;have q7:=hq.cell 7 _ rfl;clear hc;have HK:=BH.out 15 _ _ _ hh.cls ((Fk.out _ _).mpr rfl);go_simp;exact HK.out
    ·intro Lq wq xq hh;simp only [AK,(Bi.out _ _).mp (hh.v 12),(Fk.out _ _).mp (hh.v 15)];refine zJ.go rfl ?_;unfold zJ.upon;have hc:Cd Lq wq:=hh.cls;rw [A6.out] at hc;have M5:=LT.out wq hc;go_simp;refine M5.mono ?_;rintro e w2 ⟨x,rfl,hx,hb⟩;exact ⟨_,rfl,Dx.out 16 Lq w2  (Eg.out Lq wq w2 hh.cls hb),(by rw [E2.out];exact hx),Dg.out wq w2 hb⟩
    ·intro Lq wq xq hh;have d14:=(Ff.out _ _).mp (hh.v 14);have d16:=(E2.out _ _).mp (hh.v 16);simp only [AK,(Bi.out _ _).mp (hh.v 12)];refine zJ.go rfl ?_;unfold zJ.upon;have hc:Cd Lq wq:=hh.cls;rw [A6.out] at hc;have hsm:=ly _ _ OT OT wq d14.ints d16.ints (by have:=HOT.out;omega);rw [lx] at hsm;go_simp;refine hsm.mono ?_;rintro e w2 ⟨rfl,hb⟩;exact ⟨_,rfl,Dx.out 17 Lq w2  (Eg.out Lq wq w2 hh.cls hb),(by rw [Ft.out]),Dg.out wq w2 hb⟩
    ·intro Lq wq xq hh;simp only [AK,(Bi.out _ _).mp (hh.v 12),(Ft.out _ _).mp (hh.v 17)];refine zJ.go rfl ?_;have HK:=BH.out 18 _ _ _ hh.cls ((Fq.out _ _).mpr rfl);go_simp;exact HK.out
    ·intro Lq wq xq hh;simp only [AK,(Bi.out _ _).mp (hh.v 12),(Fq.out _ _).mp (hh.v 18)];refine zJ.go rfl ?_;have HK:=BH.out 19 _ _ _ hh.cls ((E7.out _ _).mpr rfl);go_simp;exact HK.out
    intro xq wrgz F0 hvrgz;rw [A6.out] at F0;simp only [AK];have vrgz19:=(E7.out _ _).mp (hvrgz 19 (by decide));rw [vrgz19];clear hvrgz AK BH Dx JB Hrgzst Hrgzc A6 HrgzhX Eg Dg Hy It GE Hb Ha Cp IC Iy If GJ Fs FH Bi FC Ff Fk E2 Ft Fq E7;have HZQ:=ab (E3.out.below IY.out.1 F0);have HZF:=ab (IY.out.below F0);have HZB:=ab (Jm.out.trans (F0.mono Jm.out.size));clear F0;go_wp2
    go_roundw
    case rel=>exact ⟨i+1,R1,p1,G1,B1,op1,_,_,_,by omega,by go_num,HZF.out,HZQ.out,HZB.out,DV.out.1,DV.out.2.1,DV.out.2.2.1,AN.out.1,AN.out.2⟩
    case measure=>simp [intOf] <;> omega
  ·obtain rfl:i=m:=by omega
   go_wp2;go_ret;exact ⟨zN,HB.out⟩
theorem acts_arg{H:Type}{enc:TypeId × Value->H}{W:World}{base:Nat}{v:Value}{d:DataW H}{p:List MemPlace}(hv:Value.okWide Tryz.prog W .any base 61 v)(h:DataW.Trod enc Tryz.prog W 0 (fun _=>true) true 61 v d p):∃ L,HeldE actE (fun _=>True) W v L/\∀ x ∈ L,∀ y ∈ x.2.1,0<=y/\y<=255:=by
 obtain ⟨L,hL,BC⟩:=sU (E:=actE) Tryz.underlying61 (by kernel_rfl) (by decide) (n7 Tryz.underlying68 (by kernel_rfl) rfl rfl rfl (jV (k:=.i64) Tryz.underlying3 (by kernel_rfl)) (ks Tryz.underlying55 (by kernel_rfl) (by decide) (jV (k:=.u8) Tryz.underlying5 (by kernel_rfl))) (jV (k:=.i32) Tryz.underlying21 (by kernel_rfl))) hv h;refine ⟨L,hL.zone (fun _ _ _=>trivial),fun x hx y hy=>?_⟩;have:=bounds_u8 ((BC x hx).2.1 y hy);omega
theorem walk{H:Type}{enc:TypeId × Value->H}(W:World)(a:Int)(_:(Lit.int .i64 a).wf=true)(b:Int)(_:(Lit.int .i64 b).wf=true)(u:Value){base:Nat}{d:DataW H}{p:List MemPlace}(hv:Value.okWide Tryz.prog W .any base 61 u)(h:DataW.Trod enc Tryz.prog W 0 (fun _=>true) true 61 u d p)(_:laidMetH Tryz.prog Rows.feedPlaysRow.laid W):Calls Tryz.prog 5 #[.int .i64 a,.int .i64 b,u] W (Yes W):=by
 obtain ⟨A,hA,BC⟩:=acts_arg hv h;exact walkH W a b u A _ hA BC
theorem door_met(os:Os):laidMetH Tryz.prog Rows.feedPlaysRow.laid ((World.doorLaid Tryz.prog 400 os).forCall (fun _ _=>0) ⟨#[],#[.int .i64 0,.int .i64 0,.slice none 0 0],[]⟩).memory :=
 laidMetH_of_parts3 (fuel:=8) (laidMet_of_run' 8 (by kernel_rfl) (by kernel_rfl)) (by kernel_rfl) (by kernel_rfl)
theorem lifted(os:Os)(started:os.Started)(H:Type)(enc:TypeId × Value->H) :
  ReturnsInHanded {} Tryz.checked os 5 .any (fun w args=>(Rows.feedPlaysSpec.pre enc Tryz.prog Tryz.f5 [] false w args/\laidMetH Tryz.prog Rows.feedPlaysRow.laid w)/\sizedMet enc Tryz.prog Tryz.f5 (OpenSpec.ofChange Rows.feedPlaysSpec) false w args)
   (Rows.feedPlaysSpec.post enc Tryz.prog Tryz.f5 false true false false):=by
 refine sT (C:=Tryz.checked) (tb:=4) (by kernel_rfl) started (by kernel_rfl) Tryz.func5 (by kernel_rfl) (by kernel_rfl) Tryz.underlying4 rfl
  (by rw [Tryz.params5];intro t ht;simp at ht;rcases ht with rfl | rfl <;> exact ⟨by kernel_rfl,of_decide_eq_true (by kernel_rfl)⟩)
  (by rw [Tryz.params5];intro ds hd;match ds,hd with | [_,_,_],_=>rfl)
  (ChangeSpec.witness_shaped (enc:=enc) (C:=Tryz.checked) (os:=os) (X:=fun w _=>laidMetH Tryz.prog Rows.feedPlaysRow.laid w) false (World.doorLaid Tryz.prog 400 os) #[.int .i64 0,.int .i64 0,.slice none 0 0] 8 rfl (World.shaped_of_RefB (by kernel_rfl) (by kernel_rfl)) (by kernel_rfl) (by kernel_rfl) (by kernel_rfl) (door_met os)) ?_
 intro W base args ds before hval hA hsz hL;rw [Tryz.params5] at hA hval;obtain ⟨v0,vs0,d0,ds0,p0,q0,hargs,rfl,rfl,h0,r0⟩:=trodAll_cons hA;obtain ⟨v1,vs1,d1,ds1,p1,q1,rfl,rfl,rfl,h1,r1⟩:=trodAll_cons r0;obtain ⟨v2,vs2,d2,ds2,p2,q2,rfl,rfl,rfl,h2,r2⟩:=trodAll_cons r1;obtain ⟨rfl,rfl,rfl⟩:=trodAll_nil r2;obtain rfl:args=#[v0,v1,v2]:=by cases args;simp_all
 obtain ⟨x0,rfl,rfl,rfl,wx0⟩:=open_int Tryz.underlying3 (hval 0 3 v0 rfl rfl) h0;obtain ⟨x1,rfl,rfl,rfl,wx1⟩:=open_int Tryz.underlying3 (hval 1 3 v1 rfl rfl) h1;exact walk W x0 wx0 x1 wx1 v2 (hval 2 61 v2 rfl rfl) h2 hL
theorem and_two{a b:Bool}(ha:a=true)(hb:b=true):(a && b)=true:=by rw [ha,hb];rfl
theorem joined:joinedFacts Tryz.pinned.checked.prog 5 Tryz.f5 Rows.feedPlaysSpec Rows.feedPlaysRow=true:=by
 unfold joinedFacts
 repeat' (with_reducible refine and_two ?_ ?_)
 all_goals (as_aux_lemma=>kernel_rfl)
theorem said:Rows.FeedPlaysSaid :=
 OpenClaim.holds_of_wide 5 Tryz.f5 rfl rfl rfl rfl rfl rfl rfl ⟨rfl,rfl,rfl,rfl,rfl⟩ rfl rfl rfl rfl rfl (by kernel_rfl) Tryz.func5 joined
  (of_decide_eq_true (by kernel_rfl)) (by unfold Func.isWrapper;first | (rw [if_pos (by decide +kernel)];kernel_rfl) | (rw [if_neg (by decide +kernel)];exact ⟨rfl,rfl⟩))
  (fun os started H enc _=>lifted os started H enc)
theorem plain (f : FuncId) (fn : Func) (hf : Tryz.pinned.checked.prog.funcNamed "linotype/linotypelaw37.FeedPlays" = some f) (hfn : Tryz.pinned.checked.prog.funcs[f]? = some fn) :
  true=Tryz.pinned.checked.prog.looks []/\∀ (j:Nat) t,fn.params[j]? = some t->Tryz.pinned.checked.prog.wantsStandIn t=false:=by
 obtain rfl : f = 5 := Option.some.inj ((show Tryz.prog.funcNamed "linotype/linotypelaw37.FeedPlays" = some 5 by kernel_rfl).symm.trans hf) |>.symm
 obtain rfl:fn=Tryz.f5:=(Option.some.inj (Tryz.func5.symm.trans hfn)).symm;refine ⟨by kernel_rfl,fun j t ht=>?_⟩;rw [Tryz.params5] at ht;have hm:t ∈ [3,3,61]:=by simpa using Array.mem_of_getElem? ht
 have hall:([3,3,61].all fun u=>!Tryz.prog.wantsStandIn u)=true:=by kernel_rfl
 exact (show Tryz.prog.wantsStandIn t=false by simpa using List.all_eq_true.1 hall t hm)
theorem card:Rows.FeedPlaysCardSaid :=
 Claim7.holds_tied_plain_at .later [] _ _ _ _ said (fun _ h=>by cases h) (by kernel_rfl) (fun _ h=>by cases h) feedPlays_row_tie rfl ⟨rfl,rfl⟩ (by kernel_rfl) rfl plain (by kernel_rfl)
#print axioms card
end Go.Proofs.YtoeggiplcaegoaaGreatDoor.lawFeedPlays
