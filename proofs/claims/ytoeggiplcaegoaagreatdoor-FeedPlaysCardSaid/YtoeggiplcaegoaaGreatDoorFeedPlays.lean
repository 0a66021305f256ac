import Derived.Test.YtoeggiplcaegoaaGreatDoorZ0
import Derived.Test.YtoeggiplcaegoaaGreatDoorMg8
import Derived.Test.YtoeggiplcaegoaaGreatDoorMg1
import Derived.Test.YtoeggiplcaegoaaGreatDoorMg2
import Derived.Test.YtoeggiplcaegoaaGreatDoorCards
import Derived.Test.YtoeggiplcaegoaaGreatDoorTie
import Derived.ProofKit
import Derived.Lib.MinMax
import Derived.Deep.CutBlock
set_option maxRecDepth 100000
set_option linter.unusedVariables false
set_option linter.unusedSimpArgs false
set_option maxHeartbeats 16000000
namespace Go.Proofs.YtoeggiplcaegoaaGreatDoor.lawFeedPlays
open Go.ChangeShapes Go.WideShapes Go.ChangeAt Go.RowKit
abbrev Act3:=Int × List Int × Int
def actE:Elem Act3:=prE (aE .i64) (prE (slE (aE .u8)) (aE .i32))
abbrev za:Act3:=(0,[],0)
theorem acts_at{Z:an}{w:World}{ao:Option Addr}{n cap:Nat}{L:List Act3}(h:HeldE actE Z w (.slice ao n cap) L):n=L.length/\n<=cap/\∀ i,i<L.length->∃ b off tv,ao=some ⟨b,off,none⟩/\b<w.heap.size /\
  w.cell? ⟨b,off+i * 3,none⟩=some (.int .i64 (L.getD i za).1)/\w.cell? ⟨b,off+i * 3+1,none⟩=some tv/\w.cell? ⟨b,off+i * 3+2,none⟩=some (.int .i32 (L.getD i za).2.2)/\HeldE (aE .u8) Z w tv (L.getD i za).2.1:=by
 obtain ⟨h1,h2,h3⟩:=h.spots;refine ⟨h1,h2,fun i hi=>?_⟩;obtain ⟨b,off,rfl,hb,hz,C,hC,hr⟩:=h3 i hi;obtain ⟨C1,C2,rfl,rfl,C3,C4,rfl,⟨tv,rfl,ht⟩,rfl⟩:=hr;exact ⟨b,off,tv,rfl,hb,hC 0 (by decide),hC 1 (by decide),hC 2 (by decide),ht⟩
theorem in_of{L:List Int}(h:∀ y ∈ L,0<=y/\y<=255):inBytes L:=fun i hi=>h _ (by rw [List.getD,List.getElem?_eq_getElem hi];exact List.getElem_mem hi)
theorem qbox_new{Xo:an}{w w1:World}{B gp gg gr wd gf:Nat}{R:List Rw}{p:Pn}{v:Value}(hF:FAt Xo w B gp gg gr wd gf R p [] st0 none)(hb:Below w.heap.size w w1)(hv:HeldE lineE (fun x=>w.heap.size+1<=x) w1 v p.L) :
  QBox (w1.alloc (.cells [v,.int .i64 p.r,.int .i64 p.c,.bool p.pd,.bool p.au,.slice none 0 0,.slice none 0 0,.int .i64 0].toArray 66)) gp gr gf w1.heap.size R none p [] [] v (.slice none 0 0) (.slice none 0 0):=by
 have hn:=Has.new w1 [v,.int .i64 p.r,.int .i64 p.c,.bool p.pd,.bool p.au,.slice none 0 0,.slice none 0 0,.int .i64 0] 66;have Ca:=zI w1 (.cells [v,.int .i64 p.r,.int .i64 p.c,.bool p.pd,.bool p.au,.slice none 0 0,.slice none 0 0,.int .i64 0].toArray 66);refine ⟨hn,?_,HeldE.nil _ _ _,HeldE.nil _ _ _⟩;have h2:=(hv.zone (Y:=fun x=>w.heap.size+1<=x/\x<w1.heap.size) fun x hx hz=>⟨hz,hx⟩).below Ca;exact h2.zone fun x hx hz=>⟨iX hF (by omega) hx,by omega⟩
theorem open_short{G:List Int}(h:G.length<=1000000):(eI G).length<=1000000:=by
 unfold eI
 split
 ·unfold eB clN;rw [List.length_map,List.length_take];omega
 ·simp
theorem walkH(W:World)(a b:Int)(va:Value)(A:List Act3)(Z:an)(hb:HeldE actE Z W va A)(Bt:∀ x ∈ A,∀ y ∈ x.2.1,0<=y/\y<=255):Calls Tryz.prog 5 #[.int .i64 a,.int .i64 b,va] W (Yes W):=by
 obtain ⟨ao,ca,rfl⟩:=hb.len;have Lw:=hb.max;obtain ⟨_,Bi,hc⟩:=acts_at hb;obtain ⟨m,hm⟩:=ae (A.length);have IA:=ab (show ∀ i,i<m->inBytes (A.getD i za).2.1 from fun i hi=>in_of (Bt _ (by rw [hm] at hi;rw [List.getD,List.getElem?_eq_getElem hi];exact List.getElem_mem hi)));rw [<-hm] at hc Lw Bi ⊢;have HC:=ab hc;clear hb hc hm Bt
 by_cases h2:40<m
 ·have hd60:decide ((40:Int)<m)=true:=ah (by omega)
  go_enter Tryz.func5,Tryz.ntmps5
  go_wp2_with fail
  refine (gG _).mono ?_;rintro e w1 ⟨rfl,b1⟩
  go_wp2_with fail
  refine (gG _).mono ?_;rintro e w2 ⟨rfl,b2⟩;have B:=b1.trans (b2.mono b1.size);go_wp2;go_ret;exact ⟨af,B⟩
 have hd60:decide ((40:Int)<m)=false:=ai (by omega);obtain ⟨y,hy⟩:=ae (IntKind.u64.wrap a);have CF:0<=y/\y<=18446744073709551615:=by rw [hy,IntKind.wrap_u64];omega
 obtain ⟨c,hc⟩ : ∃ c:Nat,y % 9=(c:Int):=⟨(y % 9).toNat,by omega⟩;have KQ:c<9:=by omega
 have hy':IntKind.u64.wrap a=y:=hy.symm;have Jf:y.tmod 9=(c:Int):=by rw [Int.tmod_eq_emod_of_nonneg CF.1];exact hc
 have hwc:IntKind.i64.wrap (c:Int)=(c:Int):=by rw [IntKind.wrap_i64];omega
 obtain ⟨wd,hwd⟩ : ∃ wd:Nat,IntKind.i64.wrap (1+(c:Int))=(wd:Int)/\1<=wd/\wd<=9:=⟨1+c,by rw [IntKind.wrap_i64];omega,by omega,by omega⟩;obtain ⟨Og,Ce,OA⟩:=hwd;clear hy CF hc KQ;obtain ⟨y2,hy⟩:=ae (IntKind.u64.wrap b);have CF:0<=y2/\y2<=18446744073709551615:=by rw [hy,IntKind.wrap_u64];omega
 obtain ⟨d,hc⟩ : ∃ d:Nat,y2 % 5=(d:Int):=⟨(y2 % 5).toNat,by omega⟩;have KQ:d<5:=by omega
 have hy2':IntKind.u64.wrap b=y2:=hy.symm;have hct2:y2.tmod 5=(d:Int):=by rw [Int.tmod_eq_emod_of_nonneg CF.1];exact hc
 have hwc2:IntKind.i64.wrap (d:Int)=(d:Int):=by rw [IntKind.wrap_i64];omega
 obtain ⟨ht,Mv⟩ : ∃ ht:Nat,IntKind.i64.wrap (1+(d:Int))=(ht:Int)/\1<=ht/\ht<=5:=⟨1+d,by rw [IntKind.wrap_i64];omega,by omega,by omega⟩;obtain ⟨hww2,DW,hh5⟩:=Mv;clear hy CF hc KQ
 go_enter Tryz.func5,Tryz.ntmps5
 go_wp2_with fail
 refine (gG _).mono ?_;rintro e w1 ⟨rfl,b1⟩;have FH:=pw (wd:Int) (ht:Int) w1;rw [show da (wd:Int)=wd from by unfold da;omega,show da (ht:Int)=ht from by unfold da;omega] at FH
 go_wp2_with fail
 refine FH.mono ?_;rintro e w2 ⟨gp,gg,gr,R0,rfl,Kv,b2⟩;obtain ⟨P0,KE⟩ : ∃ P0:Pn,P0=⟨List.replicate ht (List.replicate wd zc,false),0,0,false,true⟩:=⟨_,rfl⟩;have hfn:=oB (p:=P0) (by rw [KE];exact Kv)
 go_wp2_with fail
 refine hfn.mono ?_;rintro e w3 ⟨gf,rfl,PG,hf3,b3⟩;have J8:=tS wd ht (by omega) (by omega) w3
 go_wp2_with fail
 refine J8.mono ?_;rintro e w4 ⟨v4,rfl,hv4,b4⟩;have hv4:HeldE lineE (fun x=>w3.heap.size+1<=x) w4 v4 P0.L:=by rw [KE];exact hv4
 obtain ⟨o4,k4,ev⟩:=hv4.len;obtain ⟨n0,Du⟩:=ae (P0.L.length);rw [<-Du] at ev;subst ev;have Ob:=qbox_new hf3 b4 hv4;have DL:=ab (show eJ wd ht from ⟨by omega,by omega,by omega,by omega⟩);have HPN0:=ab (show PnOk wd ht P0 from by
  rw [KE];refine ⟨by rw [List.length_replicate],fun i hi=>?_⟩;rw [List.length_replicate] at hi
  simp [List.getD,List.getElem?_replicate,hi])
 rw [show P0.r=0 from by rw [KE],show P0.c=0 from by rw [KE],show P0.pd=false from by rw [KE],show P0.au=true from by rw [KE]] at Ob;obtain ⟨gb,hgb⟩:=ae (w4.heap.size);obtain ⟨BB,NI⟩:=ae (w1.heap.size);obtain ⟨W5,AK⟩:=ae (w4.alloc (.cells [Value.slice o4 n0 k4,.int .i64 0,.int .i64 0,.bool false,.bool true,.slice none 0 0,.slice none 0 0,.int .i64 0].toArray 66));have Ca:Below w4.heap.size w4 W5:=by rw [AK];exact zI w4 _
 rw [<-AK,<-hgb] at Ob;have PC:=ab Ob;have MD:=ab (show W.heap.size<=BB from by rw [NI];exact b1.size);have Oj:=ab (show FOn (fun _=>True) BB W5 gp gg gr wd gf R0 P0 [] st0 none from by
  rw [NI];exact ⟨(hf3.below b4).below Ca,Nat.le_trans b2.size PG,(fun g e=>by cases e),Nat.le_trans b2.size (Nat.le_trans b3.size (Nat.le_trans b4.size Ca.size))⟩)
 have Lf:=ab (((b1.trans (b2.mono b1.size)).trans (b3.mono (Nat.le_trans b1.size b2.size))).trans ((b4.mono (Nat.le_trans b1.size (Nat.le_trans b2.size b3.size))).trans (Ca.mono (Nat.le_trans b1.size (Nat.le_trans b2.size (Nat.le_trans b3.size b4.size))))));have HBG:=ab (show BB<=gb from by rw [NI,hgb];exact Nat.le_trans b2.size (Nat.le_trans b3.size b4.size));have CH:=ab (show W.heap.size<=gb from Nat.le_trans MD.out HBG.out);have Oz:=ab (show ∀ x,x<W.heap.size->¬ BB<=x from fun x hx e=>by have:=MD.out;omega);have hW5':W5=w4.alloc (.cells #[Value.slice o4 n0 k4,.int .i64 0,.int .i64 0,.bool false,.bool true,.slice none 0 0,.slice none 0 0,.int .i64 0] 66):=AK;have Jc:=ab Du;have PH:=ab (show P0.r=0/\P0.c=0/\P0.pd=false/\P0.au=true from by rw [KE];exact ⟨rfl,rfl,rfl,rfl⟩);clear Ob Ca AK NI hv4 hf3 PG Kv b1 b2 b3 b4 FH hfn J8 KE Du
 go_upto_region 7 with (fail)
 rw [<-hW5',<-hgb];clear hW5' hgb;go_wp2
 go_loopw [10] (fun iv wr=>∃ (i:Nat) (R:List Rw) (p:Pn) (G bs:List Int) (op:Option Nat) (v gv bv:Value),i<=m/\iv=.int .i64 i/\FOn (fun _=>True) BB wr gp gg gr wd gf R p G (aF st0 bs) op/\QBox wr gp gr gf gb R op p G bs v gv bv/\Below W.heap.size W wr/\PnOk wd ht p/\AllV G/\inBytes bs/\G.length<=121 * i/\bs.length<=60 * i) (fun iv _=>m - (intOf iv).toNat)
 case atStart=>exact ⟨0,R0,P0,[],[],none,_,_,_,Nat.zero_le _,rfl,Oj.out,PC.out,Lf.out,HPN0.out,AllV.nil,xb,Nat.zero_le _,Nat.zero_le _⟩
 case round =>
  obtain ⟨i,R,p,G,bs,op,v,gv,bv,hi,rfl,hf,hq,zN,FH,hG,OO,Dm,hl2⟩:=hrel;obtain ⟨wq,DM⟩:=ae (wr);subst DM;have HB:=ab zN
  by_cases hlt:i<m
  ·obtain ⟨vo,vk,rfl⟩:=hq.2.1.len;obtain ⟨go1,gk,rfl⟩:=hq.2.2.1.len;obtain ⟨bo,bk,rfl⟩:=hq.2.2.2.len;obtain ⟨nL,CK⟩:=ae (p.L.length);obtain ⟨nG,CG⟩:=ae (G.length);obtain ⟨nB,CJ⟩:=ae (bs.length);rw [<-CK,<-CG,<-CJ] at hq;have HF:=ab hf;have HQ:=ab hq;have Jd:=ab FH;have Oq:=ab hG;have La:=ab OO;have HL:=ab (show G.length<=121 * 40/\bs.length<=60 * 40/\G.length<=121 * i/\bs.length<=60 * i from ⟨by omega,by omega,Dm,hl2⟩);clear hf hq FH hG OO Dm hl2 CK CG CJ PC Oj Lf HPN0 Jc PH;obtain ⟨b,off,tv,rfl,BY,c0,c1,c2,Dy⟩:=HC.out i hlt;obtain ⟨⟨K,T,X⟩,hS⟩ : ∃ y,y=A.getD i za:=⟨_,rfl⟩;have Bb:=IA.out i hlt;rw [<-hS] at c0 c2 Dy Bb;simp only at c0 c2 Dy Bb;obtain ⟨ta,tc,rfl⟩:=Dy.len;obtain ⟨tn,EN⟩:=ae (T.length);rw [<-EN] at c1 Dy;have NR:=ab Bb;have EL:=ab c1;have I5:=ab c2;have Ks:=ab BY;have bw:=zN;have hbs0:b<wq.heap.size:=Nat.lt_of_lt_of_le BY bw.size;have c0:=(bw.cell (p:=⟨b,off+i * 3,none⟩) BY).trans c0;have c1:=(bw.cell (p:=⟨b,off+i * 3+1,none⟩) BY).trans c1;have c2:=(bw.cell (p:=⟨b,off+i * 3+2,none⟩) BY).trans c2;have HT:=ab ((Dy.zone (Y:=fun x=>x<W.heap.size) (fun x hx _=>hx)).below bw);have HTN0:=ab EN;clear bw Dy hS BY EN Bb zN
   by_cases h60:60<tn
   ·have hd61:decide ((60:Int)<tn)=true:=ah (by omega);go_wp2;go_ret;exact ⟨af,HB.out⟩
   have hd61:decide ((60:Int)<tn)=false:=ai (by omega);have IM:=ab (show T.length<=60 from by have:=HTN0.out;omega);clear HTN0
   go_upto_block 2 with fail
   go_cut [] from 55 to 97 (fun wx=>∃ (R1:List Rw) (p1:Pn) (G1 B1:List Int) (op1:Option Nat) (v gv bv:Value),FOn (fun _=>True) BB wx gp gg gr wd gf R1 p1 G1 (aF st0 B1) op1/\QBox wx gp gr gf gb R1 op1 p1 G1 B1 v gv bv/\Below W.heap.size W wx/\(PnOk wd ht p1/\AllV G1/\inBytes B1/\G1.length<=1000000/\B1.length<=1000000)/\G1.length<=121 * (i+1)/\B1.length<=60 * (i+1))
   case first =>
    by_cases DY:K=0
    ·
     have k0:(K == 0)=true:=by rw [beq_iff_eq];omega
     have DU:=ab (fV BB gp gg gr wd gf R p G (aF st0 bs) op (.slice ta tn tc) T wq HF.out.1 (xd La.out) (HT.out.zone (fun x _ hx e=>Oz.out x hx (rE HF.out x e))) NR.out)
     go_wp2_with fail
     refine DU.out.mono ?_;rintro e w1 ⟨rfl,kg⟩;obtain ⟨R1,op1,f1,u1,b1,rf1,AA⟩:=HF.out.go kg;have q1:=HQ.out.go HF.out.1 u1 rf1 AA;have bw1:=HB.out.trans (b1.mono MD.out);have Mb:=HT.out.upd u1 (fun x hx e=>Oz.out x hx (rE HF.out x e));have hc1:=Mb.zone (Y:=fun x=>¬ FW w1 gp gr gf R1 op1 x/\x≠gb) (fun x _ hx=>⟨fun e=>Oz.out x hx (rE f1 x e),fun e=>Oz.out x hx (by rw [e];exact HBG.out)⟩);have Cd:=fun w' hb=>q1.bytes (w1:=w') hb hc1 (by have:=HL.out.1;omega) (by have:=HL.out.2;have:=IM.out;omega) La.out NR.out
     obtain ⟨p1,DE⟩:=ae (p);obtain ⟨G1,Et⟩:=ae (G++aA (aF st0 bs) T);obtain ⟨B1,DT⟩:=ae (bs++T);have AL:=ab (show G1.length<=121 * (i+1)/\B1.length<=60 * (i+1) from by
      have h1:=iT (aF st0 bs) T;have h2:=HL.out;have h3:=IM.out;rw [Et,DT,List.length_append,List.length_append];omega)
     have DN:=ab (show PnOk wd ht p1/\AllV G1/\inBytes B1/\G1.length<=1000000/\B1.length<=1000000 from ⟨by rw [DE];exact Jd.out,by rw [Et];exact Oq.out.app (AllV.told La.out NR.out),by rw [DT];exact y9 La.out NR.out,by have:=AL.out;omega,by have:=AL.out;omega⟩);rw [<-iC] at f1;rw [<-Et,<-DT] at f1 Cd;rw [show FOn (fun _=>True) BB w1 gp gg gr wd gf R1 p G1 (aF st0 B1) op1=FOn (fun _=>True) BB w1 gp gg gr wd gf R1 p1 G1 (aF st0 B1) op1 from by rw [DE]] at f1;have Cd:∀ w' (_:Below w1.heap.size w1 w'),Calls Tryz.prog 33 #[.agg #[.slice vo nL vk,.int .i64 p.r,.int .i64 p.c,.bool p.pd,.bool p.au,.slice go1 nG gk,.slice bo nB bk,.int .i64 ((aA st0 bs).length:Nat)],.slice ta tn tc] w' (fun e w2=>∃ x,e=.returned x/\RQ w1 gp gr gf gb R1 op1 p1 G1 B1 x w2/\Below w'.heap.size w' w2):=by rw [DE];exact Cd
     have Jn:=ab Cd;clear Cd hc1 Mb Et DT DE;have Q1:=ab q1;have F1:=ab f1;have Jz:=ab bw1;clear q1 f1 bw1 u1 b1 rf1 AA kg;clear DU;obtain ⟨A0,Cx⟩ : ∃ CC:Array Bool->Value->World->Prop,CC=fun L8 x w'=>Below W.heap.size W w'/\(Mix.one L8 7=0->Below w1.heap.size w1 w')/\(Mix.one L8 6=1->Mix.one L8 7=0->RQ w1 gp gr gf gb R1 op1 p1 G1 B1 x w')/\(Mix.one L8 7=1->∃ v' gv' bv',QBox w' gp gr gf gb R1 op1 p1 G1 B1 v' gv' bv'/\FAt (fun _=>True) w' BB gp gg gr wd gf R1 p1 G1 (aF st0 B1) op1):=⟨_,rfl⟩
     obtain ⟨Fv,BZ,FM,Dv⟩:=Reg.xT;obtain ⟨GW,D4,Dc,CY,CX,CZ,C8,De,C0,Dx⟩:=Reg.e8 Fv
      (fun xx _=>xx=.agg #[.slice vo nL vk,.int .i64 p.r,.int .i64 p.c,.bool p.pd,.bool p.au,.slice go1 nG gk,.slice bo nB bk,.int .i64 ((aA st0 bs).length:Nat)])
      (fun xx _=>xx=.slice (some ⟨b,off,none⟩) m ca)
      (fun xx _=>xx=.int .i64 i)
      (fun xx _=>xx=.pointer (some ⟨b,off+i * 3,none⟩))
      (fun xx _=>xx=.pointer (some ⟨b,off+i * 3+1,none⟩))
      (fun xx _=>xx=.slice ta tn tc)
      (fun x w'=>True)
      (fun xx _=>xx=undef)
      (s6:=fun x w w1 hx h=>by rw [BZ] at hx;exact h)
     have Dp:Hid (∀ i L {x:Value} w,(i == 6 || i == 7)=false ->  A0 L x w->A0 (L.setIfInBounds i true) x w):=ab (by
      intro i L x w q h;simp only [Bool.or_eq_false_iff,beq_eq_false_iff_ne] at q;rw [Cx] at h ⊢;simp only [Mix.one_ne q.1,Mix.one_ne q.2];exact h)
     have EP:Hid (∀ L {x:Value} w w1,A0 L x w->Below w.heap.size w w1->A0 L x w1):=ab (by
      intro L x w w1 h hb;rw [Cx] at h ⊢
      (obtain ⟨q1,q2,q3,q4⟩:=h;exact ⟨q1.trans (hb.mono q1.size),fun e=>(q2 e).trans (hb.mono (q2 e).size),fun e f=>(q3 e f).below (q2 f).size hb,fun e=>by obtain ⟨a1,a2,a3,h1,h2⟩:=q4 e;exact ⟨a1,a2,a3,h1.below h2 hb,h2.below hb⟩⟩))
     have FS:=ab (show ∀ x,A0 (Array.replicate 8 false) x w1.drew from fun x=>by rw [Cx];exact ⟨Jz.out.trans ((Below.refl w1.heap.size w1).drew.mono Jz.out.size),fun _=>(Below.refl _ _).drew,fun e=>absurd e (by decide),fun e=>absurd e (by decide)⟩);have A9:=ab (fun (i:Nat) L {x:Value} w v q (h:A0 L x w) (e:GW i v w)=>Reg.hk (Dp.out i L w q h) e (FM.out w));have Ay:=ab Cx;have Dg:=ab BZ;clear Cx BZ
     go_wp2_with fail
     refine RegC.regionF 6 GW A0 Fv D4.out (by kernel_rfl) (by kernel_rfl) (by kernel_rfl) FS.out (fun Frgb Aw=>?_);simp only [Reg.frame,Reg.dsts,List.map_cons,List.map_nil,Mix.put_lit,Reg.put_none,List.set_cons_succ,List.set_cons_zero,Nat.zero_add,Nat.reduceAdd] at Aw;refine ⟨⟨?_,?_,?_,?_,?_,?_,?_,?_,trivial⟩,?_⟩
     ·intro Lq wq xq hh;simp only [Aw];refine Reg.go rfl ?_;have hc:A0 Lq (xq 6) wq:=hh.cls;rw [Ay.out] at hc;have hq:=Q1.out.hasAt F1.out.1 (hc.2.1 (Mix.one_un (hh.notYet 7 (by kernel_rfl))));have q0:=hq.cell 0 _ rfl;have q1:=hq.cell 1 _ rfl;have q2:=hq.cell 2 _ rfl;have q3:=hq.cell 3 _ rfl;have q4:=hq.cell 4 _ rfl;have q5:=hq.cell 5 _ rfl;have q6:=hq.cell 6 _ rfl;have q7:=hq.cell 7 _ rfl;clear hc;have HK:=A9.out 0 _ _ _ rfl hh.cls ((Dc.out _ _).mpr rfl);go_simp;exact HK.out
     ·intro Lq wq xq hh;simp only [Aw];refine Reg.go rfl ?_;have HK:=A9.out 1 _ _ _ rfl hh.cls ((CY.out _ _).mpr rfl);go_simp;exact HK.out
     ·intro Lq wq xq hh;simp only [Aw];refine Reg.go rfl ?_;have HK:=A9.out 2 _ _ _ rfl hh.cls ((CX.out _ _).mpr rfl);go_simp;exact HK.out
     ·intro Lq wq xq hh;simp only [Aw,(CY.out _ _).mp (hh.v 1),(CX.out _ _).mp (hh.v 2)];refine Reg.go rfl ?_;have HK:=A9.out 3 _ _ _ rfl hh.cls ((CZ.out _ _).mpr rfl);go_simp;exact HK.out
     ·intro Lq wq xq hh;simp only [Aw,(CZ.out _ _).mp (hh.v 3)];refine Reg.go rfl ?_;have HK:=A9.out 4 _ _ _ rfl hh.cls ((C8.out _ _).mpr rfl);go_simp;exact HK.out
     ·intro Lq wq xq hh;simp only [Aw,(C8.out _ _).mp (hh.v 4)];refine Reg.go rfl ?_;have hc:A0 Lq (xq 6) wq:=hh.cls;rw [Ay.out] at hc;have y0:=(hc.1.cell (p:=⟨b,off+i * 3+1,none⟩) Ks.out).trans EL.out;clear hc;have HK:=A9.out 5 _ _ _ rfl hh.cls ((De.out _ _).mpr rfl);go_simp;exact HK.out
     ·intro Lq wq xq hh;simp only [Aw,(Dc.out _ _).mp (hh.v 0),(De.out _ _).mp (hh.v 5)];refine Reg.go rfl ?_;unfold Reg.upon;have hc:A0 Lq (xq 6) wq:=hh.cls;rw [Ay.out] at hc;have hb:=hc.2.1 (Mix.one_un (hh.notYet 7 (by kernel_rfl)));have O7:=Jn.out wq hb;go_simp;refine O7.mono ?_;rintro e w2 ⟨x,rfl,hr,b9⟩;have hF:A0 (Lq.setIfInBounds 6 true) x w2:=by
       rw [Ay.out];refine ⟨hc.1.trans (b9.mono hc.1.size),fun _=>hb.trans (b9.mono hb.size),fun _ _=>hr,fun e=>?_⟩;rw [Mix.one_ne (by decide),Mix.one_un (hh.notYet 7 (by kernel_rfl))] at e;exact absurd e (by decide)
      exact ⟨_,rfl,hF,(by rw [C0.out];trivial),(by rw [Dg.out];trivial)⟩
     ·intro Lq wq xq hh;have d6:=(C0.out _ _).mp (hh.v 6);simp only [Aw];refine Reg.go rfl ?_;unfold Reg.upon;have hc:A0 Lq (xq 6) wq:=hh.cls;rw [Ay.out] at hc;have hb:=hc.2.1 hh.un;have hr:=hc.2.2.1 (hh.isDone 6 (by kernel_rfl)) hh.un;have Aj:=Q1.out.hasAt F1.out.1 hb;have s0:=Aj.cell 0 _ rfl;have s1:=Aj.cell 1 _ rfl;have s2:=Aj.cell 2 _ rfl;have s3:=Aj.cell 3 _ rfl;have s4:=Aj.cell 4 _ rfl;have s5:=Aj.cell 5 _ rfl;have s6:=Aj.cell 6 _ rfl;have s7:=Aj.cell 7 _ rfl;have f0:=Aj.free 0;have f1:=Aj.free 1;have f2:=Aj.free 2;have f3:=Aj.free 3;have f4:=Aj.free 4;have f5:=Aj.free 5;have f6:=Aj.free 6;have f7:=Aj.free 7;obtain ⟨v',gv',bv',e1,q9,f9⟩:=QBox.store Q1.out F1.out.1 hb hr;obtain ⟨o9,k9,ev1⟩:=q9.2.1.len;obtain ⟨g9,l9,ev2⟩:=q9.2.2.1.len;obtain ⟨b0,j9,ev3⟩:=q9.2.2.2.len;obtain ⟨n9,G0⟩:=ae (p1.L.length);obtain ⟨m9,J0⟩:=ae (G1.length);obtain ⟨h9,FC⟩:=ae (B1.length);rw [<-G0] at ev1;rw [<-J0] at ev2;rw [<-FC] at ev3;subst ev1;subst ev2;subst ev3;clear G0 J0 FC;have hF:A0 (Lq.setIfInBounds 7 true) (xq 6) ((((((((wq.setCell ⟨gb,0,none⟩ (.slice o9 n9 k9)).setCell ⟨gb,1,none⟩ (.int .i64 p1.r)).setCell ⟨gb,2,none⟩ (.int .i64 p1.c)).setCell ⟨gb,3,none⟩ (.bool p1.pd)).setCell ⟨gb,4,none⟩ (.bool p1.au)).setCell ⟨gb,5,none⟩ (.slice g9 m9 l9)).setCell ⟨gb,6,none⟩ (.slice b0 h9 j9)).setCell ⟨gb,7,none⟩ (.int .i64 ((aA st0 B1).length:Nat))):=by
       rw [Ay.out];refine ⟨hc.1.trans ((db wq gb _ (.int .i64 p1.r) (.int .i64 p1.c) (.bool p1.pd) (.bool p1.au) _ _ (.int .i64 ((aA st0 B1).length:Nat))).below hc.1.size (fun x e=>by rw [e];exact CH.out)),fun e=>?_,fun _ e=>?_,fun _=>⟨_,_,_,q9,f9⟩⟩
       ·rw [Mix.one_set (by rw [hh.size];decide)] at e;exact absurd e (by decide)
       ·rw [Mix.one_set (by rw [hh.size];decide)] at e;exact absurd e (by decide)
      have hE:GW 7 undef ((((((((wq.setCell ⟨gb,0,none⟩ (.slice o9 n9 k9)).setCell ⟨gb,1,none⟩ (.int .i64 p1.r)).setCell ⟨gb,2,none⟩ (.int .i64 p1.c)).setCell ⟨gb,3,none⟩ (.bool p1.pd)).setCell ⟨gb,4,none⟩ (.bool p1.au)).setCell ⟨gb,5,none⟩ (.slice g9 m9 l9)).setCell ⟨gb,6,none⟩ (.slice b0 h9 j9)).setCell ⟨gb,7,none⟩ (.int .i64 ((aA st0 B1).length:Nat))):=by rw [Dx.out]
      have hX:Fv wq ((((((((wq.setCell ⟨gb,0,none⟩ (.slice o9 n9 k9)).setCell ⟨gb,1,none⟩ (.int .i64 p1.r)).setCell ⟨gb,2,none⟩ (.int .i64 p1.c)).setCell ⟨gb,3,none⟩ (.bool p1.pd)).setCell ⟨gb,4,none⟩ (.bool p1.au)).setCell ⟨gb,5,none⟩ (.slice g9 m9 l9)).setCell ⟨gb,6,none⟩ (.slice b0 h9 j9)).setCell ⟨gb,7,none⟩ (.int .i64 ((aA st0 B1).length:Nat))):=by rw [Dg.out];trivial
      rw [e1];clear hc Aj hb hr q9 f9;go_simp;exact ⟨hF,hE,hX⟩
     intro xq wrgb Ek J2;rw [Ay.out] at Ek;simp only [Aw];clear J2 Aw A9 Dp FM D4 FS Ay Dg EP Dv Dc CY CX CZ C8 De C0 Dx;obtain ⟨v2,gv2,bv2,Au,hf2⟩:=Ek.2.2.2 (by kernel_rfl);have Jj:=ab Ek.1;obtain ⟨w5,Ev⟩:=ae (wrgb);rw [<-Ev] at Au hf2 Jj;rw [<-Ev];clear Ev Ek Jn;have E0:=ab Au;have I3:=ab (show FOn (fun _=>True) BB w5 gp gg gr wd gf R1 p1 G1 (aF st0 B1) op1 from ⟨hf2,F1.out.2.1,F1.out.2.2.1,Nat.le_trans hf2.2.gp_lt.1 (Nat.le_of_lt hf2.2.gp_lt.2)⟩);clear Au hf2;go_wp2;go_meet
     case rel=>exact ⟨R1,p1,G1,B1,op1,v2,gv2,bv2,I3.out,E0.out,Jj.out,DN.out,AL.out⟩
    by_cases JN:K=1
    ·
     have k0:(K == 0)=false:=by rw [beq_eq_false_iff_ne];omega
     have k1:(K == 1)=true:=by rw [beq_iff_eq];omega
     have DU:=ab (sf BB gp gg gr wd gf R p G (aF st0 bs) op X wq HF.out.1)
     go_wp2_with fail
     refine DU.out.mono ?_;rintro e w1 ⟨rfl,kg⟩;obtain ⟨R1,op1,f1,u1,b1,rf1,AA⟩:=HF.out.go kg;have q1:=HQ.out.go HF.out.1 u1 rf1 AA;have bw1:=HB.out.trans (b1.mono MD.out);have Cd:=fun w' hb=>q1.rune (w1:=w') hb X (by have:=HL.out.1;omega)
     obtain ⟨p1,DE⟩:=ae (p);obtain ⟨G1,Et⟩:=ae (G++[aS X]);obtain ⟨B1,DT⟩:=ae (bs);have AL:=ab (show G1.length<=121 * (i+1)/\B1.length<=60 * (i+1) from by
      have h2:=HL.out;rw [Et,DT,List.length_append];simp only [List.length_cons,List.length_nil];omega)
     have DN:=ab (show PnOk wd ht p1/\AllV G1/\inBytes B1/\G1.length<=1000000/\B1.length<=1000000 from ⟨by rw [DE];exact Jd.out,by rw [Et];exact Oq.out.app (AllV.one X),by rw [DT];exact La.out,by have:=AL.out;omega,by have:=AL.out;omega⟩);have f1:FOn (fun _=>True) BB w1 gp gg gr wd gf R1 p1 G1 (aF st0 B1) op1:=by rw [DE,Et,DT];exact f1
     have Cd:∀ w' (_:Below w1.heap.size w1 w'),Calls Tryz.prog 34 #[.agg #[.slice vo nL vk,.int .i64 p.r,.int .i64 p.c,.bool p.pd,.bool p.au,.slice go1 nG gk,.slice bo nB bk,.int .i64 ((aA st0 bs).length:Nat)],.int .i32 X] w' (fun e w2=>∃ x,e=.returned x/\RQ w1 gp gr gf gb R1 op1 p1 G1 B1 x w2/\Below w'.heap.size w' w2):=by rw [DE,Et,DT];exact Cd
     have Jn:=ab Cd;clear Cd Et DT DE;have Q1:=ab q1;have F1:=ab f1;have Jz:=ab bw1;clear q1 f1 bw1 u1 b1 rf1 AA kg;clear DU;obtain ⟨Dw,F6⟩ : ∃ CC:Array Bool->Value->World->Prop,CC=fun L8 x w'=>Below W.heap.size W w'/\(Mix.one L8 7=0->Below w1.heap.size w1 w')/\(Mix.one L8 6=1->Mix.one L8 7=0->RQ w1 gp gr gf gb R1 op1 p1 G1 B1 x w')/\(Mix.one L8 7=1->∃ v' gv' bv',QBox w' gp gr gf gb R1 op1 p1 G1 B1 v' gv' bv'/\FAt (fun _=>True) w' BB gp gg gr wd gf R1 p1 G1 (aF st0 B1) op1):=⟨_,rfl⟩
     obtain ⟨Mi,JB,Hrgrx,Hrgrxb⟩:=Reg.xT;obtain ⟨Lv,Hrgrst,GU,Im,Hu,GL,Ii,GA,Ik,Hrgre7⟩:=Reg.e8 Mi
      (fun xx _=>xx=.agg #[.slice vo nL vk,.int .i64 p.r,.int .i64 p.c,.bool p.pd,.bool p.au,.slice go1 nG gk,.slice bo nB bk,.int .i64 ((aA st0 bs).length:Nat)])
      (fun xx _=>xx=.slice (some ⟨b,off,none⟩) m ca)
      (fun xx _=>xx=.int .i64 i)
      (fun xx _=>xx=.pointer (some ⟨b,off+i * 3,none⟩))
      (fun xx _=>xx=.pointer (some ⟨b,off+i * 3+2,none⟩))
      (fun xx _=>xx=.int .i32 X)
      (fun x w'=>True)
      (fun xx _=>xx=undef)
      (s6:=fun x w w1 hx h=>by rw [JB] at hx;exact h)
     have Hrgrk:Hid (∀ i L {x:Value} w,(i == 6 || i == 7)=false ->  Dw L x w->Dw (L.setIfInBounds i true) x w):=ab (by
      intro i L x w q h;simp only [Bool.or_eq_false_iff,beq_eq_false_iff_ne] at q;rw [F6] at h ⊢;simp only [Mix.one_ne q.1,Mix.one_ne q.2];exact h)
     have Hrgrb:Hid (∀ L {x:Value} w w1,Dw L x w->Below w.heap.size w w1->Dw L x w1):=ab (by
      intro L x w w1 h hb;rw [F6] at h ⊢
      (obtain ⟨q1,q2,q3,q4⟩:=h;exact ⟨q1.trans (hb.mono q1.size),fun e=>(q2 e).trans (hb.mono (q2 e).size),fun e f=>(q3 e f).below (q2 f).size hb,fun e=>by obtain ⟨a1,a2,a3,h1,h2⟩:=q4 e;exact ⟨a1,a2,a3,h1.below h2 hb,h2.below hb⟩⟩))
     have Hrgrc:=ab (show ∀ x,Dw (Array.replicate 8 false) x w1.drew from fun x=>by rw [F6];exact ⟨Jz.out.trans ((Below.refl w1.heap.size w1).drew.mono Jz.out.size),fun _=>(Below.refl _ _).drew,fun e=>absurd e (by decide),fun e=>absurd e (by decide)⟩);have D7:=ab (fun (i:Nat) L {x:Value} w v q (h:Dw L x w) (e:Lv i v w)=>Reg.hk (Hrgrk.out i L w q h) e (Hrgrx.out w));have CB:=ab F6;have Hv:=ab JB;clear F6 JB
     go_wp2_with fail
     refine RegC.regionF 6 Lv Dw Mi Hrgrst.out (by kernel_rfl) (by kernel_rfl) (by kernel_rfl) Hrgrc.out (fun Frgr Cy=>?_);simp only [Reg.frame,Reg.dsts,List.map_cons,List.map_nil,Mix.put_lit,Reg.put_none,List.set_cons_succ,List.set_cons_zero,Nat.zero_add,Nat.reduceAdd] at Cy;refine ⟨⟨?_,?_,?_,?_,?_,?_,?_,?_,trivial⟩,?_⟩
     ·intro Lq wq xq hh;simp only [Cy];refine Reg.go rfl ?_;have hc:Dw Lq (xq 6) wq:=hh.cls;rw [CB.out] at hc;have hq:=Q1.out.hasAt F1.out.1 (hc.2.1 (Mix.one_un (hh.notYet 7 (by kernel_rfl))));have q0:=hq.cell 0 _ rfl;have q1:=hq.cell 1 _ rfl;have q2:=hq.cell 2 _ rfl;have q3:=hq.cell 3 _ rfl;have q4:=hq.cell 4 _ rfl;have q5:=hq.cell 5 _ rfl;have q6:=hq.cell 6 _ rfl;have q7:=hq.cell 7 _ rfl;clear hc;have HK:=D7.out 0 _ _ _ rfl hh.cls ((GU.out _ _).mpr rfl);go_simp;exact HK.out
     ·intro Lq wq xq hh;simp only [Cy];refine Reg.go rfl ?_;have HK:=D7.out 1 _ _ _ rfl hh.cls ((Im.out _ _).mpr rfl);go_simp;exact HK.out
     ·intro Lq wq xq hh;simp only [Cy];refine Reg.go rfl ?_;have HK:=D7.out 2 _ _ _ rfl hh.cls ((Hu.out _ _).mpr rfl);go_simp;exact HK.out
     ·intro Lq wq xq hh;simp only [Cy,(Im.out _ _).mp (hh.v 1),(Hu.out _ _).mp (hh.v 2)];refine Reg.go rfl ?_;have HK:=D7.out 3 _ _ _ rfl hh.cls ((GL.out _ _).mpr rfl);go_simp;exact HK.out
     ·intro Lq wq xq hh;simp only [Cy,(GL.out _ _).mp (hh.v 3)];refine Reg.go rfl ?_;have HK:=D7.out 4 _ _ _ rfl hh.cls ((Ii.out _ _).mpr rfl);go_simp;exact HK.out
     ·intro Lq wq xq hh;simp only [Cy,(Ii.out _ _).mp (hh.v 4)];refine Reg.go rfl ?_;have hc:Dw Lq (xq 6) wq:=hh.cls;rw [CB.out] at hc;have y0:=(hc.1.cell (p:=⟨b,off+i * 3+2,none⟩) Ks.out).trans I5.out;clear hc;have HK:=D7.out 5 _ _ _ rfl hh.cls ((GA.out _ _).mpr rfl);go_simp;exact HK.out
     ·intro Lq wq xq hh;simp only [Cy,(GU.out _ _).mp (hh.v 0),(GA.out _ _).mp (hh.v 5)];refine Reg.go rfl ?_;unfold Reg.upon;have hc:Dw Lq (xq 6) wq:=hh.cls;rw [CB.out] at hc;have hb:=hc.2.1 (Mix.one_un (hh.notYet 7 (by kernel_rfl)));have O7:=Jn.out wq hb;go_simp;refine O7.mono ?_;rintro e w2 ⟨x,rfl,hr,b9⟩;have hF:Dw (Lq.setIfInBounds 6 true) x w2:=by
       rw [CB.out];refine ⟨hc.1.trans (b9.mono hc.1.size),fun _=>hb.trans (b9.mono hb.size),fun _ _=>hr,fun e=>?_⟩;rw [Mix.one_ne (by decide),Mix.one_un (hh.notYet 7 (by kernel_rfl))] at e;exact absurd e (by decide)
      exact ⟨_,rfl,hF,(by rw [Ik.out];trivial),(by rw [Hv.out];trivial)⟩
     ·intro Lq wq xq hh;have d6:=(Ik.out _ _).mp (hh.v 6);simp only [Cy];refine Reg.go rfl ?_;unfold Reg.upon;have hc:Dw Lq (xq 6) wq:=hh.cls;rw [CB.out] at hc;have hb:=hc.2.1 hh.un;have hr:=hc.2.2.1 (hh.isDone 6 (by kernel_rfl)) hh.un;have Aj:=Q1.out.hasAt F1.out.1 hb;have s0:=Aj.cell 0 _ rfl;have s1:=Aj.cell 1 _ rfl;have s2:=Aj.cell 2 _ rfl;have s3:=Aj.cell 3 _ rfl;have s4:=Aj.cell 4 _ rfl;have s5:=Aj.cell 5 _ rfl;have s6:=Aj.cell 6 _ rfl;have s7:=Aj.cell 7 _ rfl;have f0:=Aj.free 0;have f1:=Aj.free 1;have f2:=Aj.free 2;have f3:=Aj.free 3;have f4:=Aj.free 4;have f5:=Aj.free 5;have f6:=Aj.free 6;have f7:=Aj.free 7;obtain ⟨v',gv',bv',e1,q9,f9⟩:=QBox.store Q1.out F1.out.1 hb hr;obtain ⟨o9,k9,ev1⟩:=q9.2.1.len;obtain ⟨g9,l9,ev2⟩:=q9.2.2.1.len;obtain ⟨b0,j9,ev3⟩:=q9.2.2.2.len;obtain ⟨n9,G0⟩:=ae (p1.L.length);obtain ⟨m9,J0⟩:=ae (G1.length);obtain ⟨h9,FC⟩:=ae (B1.length);rw [<-G0] at ev1;rw [<-J0] at ev2;rw [<-FC] at ev3;subst ev1;subst ev2;subst ev3;clear G0 J0 FC;have hF:Dw (Lq.setIfInBounds 7 true) (xq 6) ((((((((wq.setCell ⟨gb,0,none⟩ (.slice o9 n9 k9)).setCell ⟨gb,1,none⟩ (.int .i64 p1.r)).setCell ⟨gb,2,none⟩ (.int .i64 p1.c)).setCell ⟨gb,3,none⟩ (.bool p1.pd)).setCell ⟨gb,4,none⟩ (.bool p1.au)).setCell ⟨gb,5,none⟩ (.slice g9 m9 l9)).setCell ⟨gb,6,none⟩ (.slice b0 h9 j9)).setCell ⟨gb,7,none⟩ (.int .i64 ((aA st0 B1).length:Nat))):=by
       rw [CB.out];refine ⟨hc.1.trans ((db wq gb _ (.int .i64 p1.r) (.int .i64 p1.c) (.bool p1.pd) (.bool p1.au) _ _ (.int .i64 ((aA st0 B1).length:Nat))).below hc.1.size (fun x e=>by rw [e];exact CH.out)),fun e=>?_,fun _ e=>?_,fun _=>⟨_,_,_,q9,f9⟩⟩
       ·rw [Mix.one_set (by rw [hh.size];decide)] at e;exact absurd e (by decide)
       ·rw [Mix.one_set (by rw [hh.size];decide)] at e;exact absurd e (by decide)
      have hE:Lv 7 undef ((((((((wq.setCell ⟨gb,0,none⟩ (.slice o9 n9 k9)).setCell ⟨gb,1,none⟩ (.int .i64 p1.r)).setCell ⟨gb,2,none⟩ (.int .i64 p1.c)).setCell ⟨gb,3,none⟩ (.bool p1.pd)).setCell ⟨gb,4,none⟩ (.bool p1.au)).setCell ⟨gb,5,none⟩ (.slice g9 m9 l9)).setCell ⟨gb,6,none⟩ (.slice b0 h9 j9)).setCell ⟨gb,7,none⟩ (.int .i64 ((aA st0 B1).length:Nat))):=by rw [Hrgre7.out]
      have hX:Mi wq ((((((((wq.setCell ⟨gb,0,none⟩ (.slice o9 n9 k9)).setCell ⟨gb,1,none⟩ (.int .i64 p1.r)).setCell ⟨gb,2,none⟩ (.int .i64 p1.c)).setCell ⟨gb,3,none⟩ (.bool p1.pd)).setCell ⟨gb,4,none⟩ (.bool p1.au)).setCell ⟨gb,5,none⟩ (.slice g9 m9 l9)).setCell ⟨gb,6,none⟩ (.slice b0 h9 j9)).setCell ⟨gb,7,none⟩ (.int .i64 ((aA st0 B1).length:Nat))):=by rw [Hv.out];trivial
      rw [e1];clear hc Aj hb hr q9 f9;go_simp;exact ⟨hF,hE,hX⟩
     intro xq wrgr Iy hvrgr;rw [CB.out] at Iy;simp only [Cy];clear hvrgr Cy D7 Hrgrk Hrgrx Hrgrst Hrgrc CB Hv Hrgrb Hrgrxb GU Im Hu GL Ii GA Ik Hrgre7;obtain ⟨v2,gv2,bv2,Au,hf2⟩:=Iy.2.2.2 (by kernel_rfl);have Jj:=ab Iy.1;obtain ⟨w5,Ev⟩:=ae (wrgr);rw [<-Ev] at Au hf2 Jj;rw [<-Ev];clear Ev Iy Jn;have E0:=ab Au;have I3:=ab (show FOn (fun _=>True) BB w5 gp gg gr wd gf R1 p1 G1 (aF st0 B1) op1 from ⟨hf2,F1.out.2.1,F1.out.2.2.1,Nat.le_trans hf2.2.gp_lt.1 (Nat.le_of_lt hf2.2.gp_lt.2)⟩);clear Au hf2;go_wp2;go_meet
     case rel=>exact ⟨R1,p1,G1,B1,op1,v2,gv2,bv2,I3.out,E0.out,Jj.out,DN.out,AL.out⟩
    by_cases hk2:K=2
    ·
     have k0:(K == 0)=false:=by rw [beq_eq_false_iff_ne];omega
     have k1:(K == 1)=false:=by rw [beq_eq_false_iff_ne];omega
     have k2:(K == 2)=true:=by rw [beq_iff_eq];omega
     have DU:=ab (xF BB gp gg gr wd gf R p G (aF st0 bs) op wq HF.out.1 (xd La.out))
     go_wp2_with fail
     refine DU.out.mono ?_;rintro e w1 ⟨rfl,kg⟩;obtain ⟨R1,op1,f1,u1,b1,rf1,AA⟩:=HF.out.go kg;have q1:=HQ.out.go HF.out.1 u1 rf1 AA;have bw1:=HB.out.trans (b1.mono MD.out);have Cd:=fun w' hb=>q1.flush (ht:=ht) (w1:=w') hb DL.out Jd.out (by have:=HL.out.1;omega) Oq.out (by have:=HL.out.2;omega) La.out
     obtain ⟨p1,DE⟩:=ae (bH wd p (bj (G++flT (aF st0 bs))));obtain ⟨G1,Et⟩ : ∃ G1:List Int,G1=[]:=⟨_,rfl⟩;obtain ⟨B1,DT⟩ : ∃ B1:List Int,B1=[]:=⟨_,rfl⟩;have AL:=ab (show G1.length<=121 * (i+1)/\B1.length<=60 * (i+1) from by
      rw [Et,DT];simp only [List.length_nil];omega)
     have DN:=ab (show PnOk wd ht p1/\AllV G1/\inBytes B1/\G1.length<=1000000/\B1.length<=1000000 from ⟨by rw [DE];exact Jd.out.lay DL.out _ ,by rw [Et];exact AllV.nil,by rw [DT];exact xb,by have:=AL.out;omega,by have:=AL.out;omega⟩);have f1:FOn (fun _=>True) BB w1 gp gg gr wd gf R1 p1 G1 (aF st0 B1) op1:=by rw [DE,Et,DT];exact f1
     have Cd:∀ w' (_:Below w1.heap.size w1 w'),Calls Tryz.prog 35 #[.agg #[.slice vo nL vk,.int .i64 p.r,.int .i64 p.c,.bool p.pd,.bool p.au,.slice go1 nG gk,.slice bo nB bk,.int .i64 ((aA st0 bs).length:Nat)]] w' (fun e w2=>∃ x,e=.returned x/\RQ w1 gp gr gf gb R1 op1 p1 G1 B1 x w2/\Below w'.heap.size w' w2):=by rw [DE,Et,DT];exact Cd
     have Jn:=ab Cd;clear Cd Et DT DE;have Q1:=ab q1;have F1:=ab f1;have Jz:=ab bw1;clear q1 f1 bw1 u1 b1 rf1 AA kg;clear DU;have Aj:=Q1.out.1;have q0:=Aj.cell 0 _ rfl;have q1:=Aj.cell 1 _ rfl;have q2:=Aj.cell 2 _ rfl;have q3:=Aj.cell 3 _ rfl;have q4:=Aj.cell 4 _ rfl;have q5:=Aj.cell 5 _ rfl;have q6:=Aj.cell 6 _ rfl;have q7:=Aj.cell 7 _ rfl;clear Aj
     go_wp2_with fail
     refine (Jn.out w1 (Below.refl _ _)).mono ?_;rintro e w2 ⟨x,rfl,hr,b2⟩;obtain ⟨v',gv',bv',e1,q9,f9⟩:=QBox.store Q1.out F1.out.1 b2 hr;obtain ⟨o9,k9,ev1⟩:=q9.2.1.len;obtain ⟨g9,l9,ev2⟩:=q9.2.2.1.len;obtain ⟨b0,j9,ev3⟩:=q9.2.2.2.len;obtain ⟨n9,G0⟩:=ae (p1.L.length);obtain ⟨m9,J0⟩:=ae (G1.length);obtain ⟨h9,FC⟩:=ae (B1.length);rw [<-G0] at ev1;rw [<-J0] at ev2;rw [<-FC] at ev3;subst ev1;subst ev2;subst ev3;clear G0 J0 FC;subst e1;have Aj:=Q1.out.hasAt F1.out.1 b2;clear q0 q1 q2 q3 q4 q5 q6 q7;have s0:=Aj.cell 0 _ rfl;have s1:=Aj.cell 1 _ rfl;have s2:=Aj.cell 2 _ rfl;have s3:=Aj.cell 3 _ rfl;have s4:=Aj.cell 4 _ rfl;have s5:=Aj.cell 5 _ rfl;have s6:=Aj.cell 6 _ rfl;have s7:=Aj.cell 7 _ rfl;have f0:=Aj.free 0;have f1:=Aj.free 1;have f2:=Aj.free 2;have f3:=Aj.free 3;have f4:=Aj.free 4;have f5:=Aj.free 5;have f6:=Aj.free 6;have f7:=Aj.free 7;obtain ⟨w5,Ev⟩:=ae (((((((((w2.setCell ⟨gb,0,none⟩ (.slice o9 n9 k9)).setCell ⟨gb,1,none⟩ (.int .i64 p1.r)).setCell ⟨gb,2,none⟩ (.int .i64 p1.c)).setCell ⟨gb,3,none⟩ (.bool p1.pd)).setCell ⟨gb,4,none⟩ (.bool p1.au)).setCell ⟨gb,5,none⟩ (.slice g9 m9 l9)).setCell ⟨gb,6,none⟩ (.slice b0 h9 j9)).setCell ⟨gb,7,none⟩ (.int .i64 ((aA st0 B1).length:Nat))));obtain ⟨v2,gv2,bv2,Au⟩ : ∃ v2 gv2 bv2,QBox w5 gp gr gf gb R1 op1 p1 G1 B1 v2 gv2 bv2:=⟨_,_,_,by rw [Ev];exact q9⟩;have hf2:FAt (fun _=>True) w5 BB gp gg gr wd gf R1 p1 G1 (aF st0 B1) op1:=by rw [Ev];exact f9
     have Jj:=ab (show Below W.heap.size W w5 from by
      have k1:=Jz.out.trans (b2.mono Jz.out.size);rw [Ev];exact k1.trans ((db w2 gb _ (.int .i64 p1.r) (.int .i64 p1.c) (.bool p1.pd) (.bool p1.au) _ _ (.int .i64 ((aA st0 B1).length:Nat))).below k1.size (fun x e=>by rw [e];exact CH.out)))
     have Di:=ab Ev;clear Aj hr b2 q9 f9 Ev Jn;have E0:=ab Au;have I3:=ab (show FOn (fun _=>True) BB w5 gp gg gr wd gf R1 p1 G1 (aF st0 B1) op1 from ⟨hf2,F1.out.2.1,F1.out.2.2.1,Nat.le_trans hf2.2.gp_lt.1 (Nat.le_of_lt hf2.2.gp_lt.2)⟩);clear Au hf2;go_wp2;go_meet
     case rel =>
      rw [<-Di.out];exact ⟨R1,p1,G1,B1,op1,v2,gv2,bv2,I3.out,E0.out,Jj.out,DN.out,AL.out⟩
    have k0:(K == 0)=false:=by rw [beq_eq_false_iff_ne];omega
    have k1:(K == 1)=false:=by rw [beq_eq_false_iff_ne];omega
    have k2:(K == 2)=false:=by rw [beq_eq_false_iff_ne];omega
    have DU:=ab (mn HF.out.1)
    go_wp2_with fail
    refine DU.out.mono ?_;rintro e w1 ⟨rfl,kg⟩;obtain ⟨R1,op1,f1,u1,b1,rf1,AA⟩:=HF.out.go kg;have q1:=HQ.out.go HF.out.1 u1 rf1 AA;have bw1:=HB.out.trans (b1.mono MD.out);have Cd:=fun w' hb=>q1.close (ht:=ht) (w1:=w') hb DL.out Jd.out (by have:=HL.out.1;omega) Oq.out
    obtain ⟨p1,DE⟩:=ae (bH wd p (bj G));obtain ⟨G1,Et⟩ : ∃ G1:List Int,G1=[]:=⟨_,rfl⟩;obtain ⟨B1,DT⟩:=ae (bs);have AL:=ab (show G1.length<=121 * (i+1)/\B1.length<=60 * (i+1) from by
     have h2:=HL.out;rw [Et,DT];simp only [List.length_nil];omega)
    have DN:=ab (show PnOk wd ht p1/\AllV G1/\inBytes B1/\G1.length<=1000000/\B1.length<=1000000 from ⟨by rw [DE];exact Jd.out.lay DL.out _ ,by rw [Et];exact AllV.nil,by rw [DT];exact La.out,by have:=AL.out;omega,by have:=AL.out;omega⟩);have f1:FOn (fun _=>True) BB w1 gp gg gr wd gf R1 p1 G1 (aF st0 B1) op1:=by rw [DE,Et,DT];exact f1
    have Cd:∀ w' (_:Below w1.heap.size w1 w'),Calls Tryz.prog 36 #[.agg #[.slice vo nL vk,.int .i64 p.r,.int .i64 p.c,.bool p.pd,.bool p.au,.slice go1 nG gk,.slice bo nB bk,.int .i64 ((aA st0 bs).length:Nat)]] w' (fun e w2=>∃ x,e=.returned x/\RQ w1 gp gr gf gb R1 op1 p1 G1 B1 x w2/\Below w'.heap.size w' w2):=by rw [DE,Et,DT];exact Cd
    have Jn:=ab Cd;clear Cd Et DT DE;have Q1:=ab q1;have F1:=ab f1;have Jz:=ab bw1;clear q1 f1 bw1 u1 b1 rf1 AA kg;clear DU;have Aj:=Q1.out.1;have q0:=Aj.cell 0 _ rfl;have q1:=Aj.cell 1 _ rfl;have q2:=Aj.cell 2 _ rfl;have q3:=Aj.cell 3 _ rfl;have q4:=Aj.cell 4 _ rfl;have q5:=Aj.cell 5 _ rfl;have q6:=Aj.cell 6 _ rfl;have q7:=Aj.cell 7 _ rfl;clear Aj
    go_wp2_with fail
    refine (Jn.out w1 (Below.refl _ _)).mono ?_;rintro e w2 ⟨x,rfl,hr,b2⟩;obtain ⟨v',gv',bv',e1,q9,f9⟩:=QBox.store Q1.out F1.out.1 b2 hr;obtain ⟨o9,k9,ev1⟩:=q9.2.1.len;obtain ⟨g9,l9,ev2⟩:=q9.2.2.1.len;obtain ⟨b0,j9,ev3⟩:=q9.2.2.2.len;obtain ⟨n9,G0⟩:=ae (p1.L.length);obtain ⟨m9,J0⟩:=ae (G1.length);obtain ⟨h9,FC⟩:=ae (B1.length);rw [<-G0] at ev1;rw [<-J0] at ev2;rw [<-FC] at ev3;subst ev1;subst ev2;subst ev3;clear G0 J0 FC;subst e1;have Aj:=Q1.out.hasAt F1.out.1 b2;clear q0 q1 q2 q3 q4 q5 q6 q7;have s0:=Aj.cell 0 _ rfl;have s1:=Aj.cell 1 _ rfl;have s2:=Aj.cell 2 _ rfl;have s3:=Aj.cell 3 _ rfl;have s4:=Aj.cell 4 _ rfl;have s5:=Aj.cell 5 _ rfl;have s6:=Aj.cell 6 _ rfl;have s7:=Aj.cell 7 _ rfl;have f0:=Aj.free 0;have f1:=Aj.free 1;have f2:=Aj.free 2;have f3:=Aj.free 3;have f4:=Aj.free 4;have f5:=Aj.free 5;have f6:=Aj.free 6;have f7:=Aj.free 7;obtain ⟨w5,Ev⟩:=ae (((((((((w2.setCell ⟨gb,0,none⟩ (.slice o9 n9 k9)).setCell ⟨gb,1,none⟩ (.int .i64 p1.r)).setCell ⟨gb,2,none⟩ (.int .i64 p1.c)).setCell ⟨gb,3,none⟩ (.bool p1.pd)).setCell ⟨gb,4,none⟩ (.bool p1.au)).setCell ⟨gb,5,none⟩ (.slice g9 m9 l9)).setCell ⟨gb,6,none⟩ (.slice b0 h9 j9)).setCell ⟨gb,7,none⟩ (.int .i64 ((aA st0 B1).length:Nat))));obtain ⟨v2,gv2,bv2,Au⟩ : ∃ v2 gv2 bv2,QBox w5 gp gr gf gb R1 op1 p1 G1 B1 v2 gv2 bv2:=⟨_,_,_,by rw [Ev];exact q9⟩;have hf2:FAt (fun _=>True) w5 BB gp gg gr wd gf R1 p1 G1 (aF st0 B1) op1:=by rw [Ev];exact f9
    have Jj:=ab (show Below W.heap.size W w5 from by
     have k1:=Jz.out.trans (b2.mono Jz.out.size);rw [Ev];exact k1.trans ((db w2 gb _ (.int .i64 p1.r) (.int .i64 p1.c) (.bool p1.pd) (.bool p1.au) _ _ (.int .i64 ((aA st0 B1).length:Nat))).below k1.size (fun x e=>by rw [e];exact CH.out)))
    have Di:=ab Ev;clear Aj hr b2 q9 f9 Ev Jn;have E0:=ab Au;have I3:=ab (show FOn (fun _=>True) BB w5 gp gg gr wd gf R1 p1 G1 (aF st0 B1) op1 from ⟨hf2,F1.out.2.1,F1.out.2.2.1,Nat.le_trans hf2.2.gp_lt.1 (Nat.le_of_lt hf2.2.gp_lt.2)⟩);clear Au hf2;go_wp2;go_meet
    case rel =>
     rw [<-Di.out];exact ⟨R1,p1,G1,B1,op1,v2,gv2,bv2,I3.out,E0.out,Jj.out,DN.out,AL.out⟩
   case rest =>
    obtain ⟨R1,p1,G1,B1,op1,v2,gv2,bv2,OY,Au,hbc,DE,Cc⟩:=hcut;obtain ⟨w5,DM⟩:=ae (wc);subst DM;have hf2:=OY.1;have I3:=ab OY;have Jj:=ab hbc;have DN:=ab DE;have AL:=ab Cc;clear OY hbc DE Cc;obtain ⟨vo2,vk2,rfl⟩:=Au.2.1.len;obtain ⟨go2,gk2,rfl⟩:=Au.2.2.1.len;obtain ⟨bo2,bk2,rfl⟩:=Au.2.2.2.len;obtain ⟨nL2,hnL2⟩:=ae (p1.L.length);obtain ⟨nG2,hnG2⟩:=ae (G1.length);obtain ⟨nB2,hnB2⟩:=ae (B1.length);rw [<-hnL2,<-hnG2,<-hnB2] at Au;have E0:=ab Au;obtain ⟨Q,hQ⟩:=ae (bH wd p1 (bj G1));have Nr:=ab (fun w' hb=>QBox.pen (ht:=ht) Au (w1:=w') hb DL.out DN.out.1 DN.out.2.2.2.1 DN.out.2.1);rw [<-hQ] at Nr;have HPN2:=ab (show ∃ Yo,xH Yo w5 BB gp gg gr wd R1 Q from by obtain ⟨Yo,_,h⟩:=hf2.2.pen;rw [hQ];exact ⟨Yo,h⟩);have FB:=ab (fun w' hb=>QBox.held Au (w1:=w') hb DN.out.2.2.2.2 DN.out.2.2.1);have HFH:=ab (fun w' (hb:Below w5.heap.size w5 w')=>ml (hf2.below hb));obtain ⟨IF,hhh⟩:=ae ((aF st0 B1).2.2);rw [<-hhh] at FB HFH;have Lp:=ab (fun w' hb=>QBox.openG Au (w1:=w') hb DN.out.2.2.2.1 DN.out.2.1);have HFO:=ab (fun w' (hb:Below w5.heap.size w5 w')=>mm (hf2.below hb));obtain ⟨OT,Pq⟩:=ae (eI G1);have HOT:=ab (show OT.length<=1000000 from by rw [Pq];exact open_short DN.out.2.2.2.1);rw [<-Pq] at Lp HFO;clear Au hf2 hnL2 hnG2 hnB2 hQ hhh Pq
    go_upto_region 24 with (fail)
    obtain ⟨B9,F7⟩ : ∃ CC:Array Bool->World->Prop,CC=fun L8 w'=>Below w5.heap.size w5 w':=⟨_,rfl⟩
    obtain ⟨Xrgz,FV,J1,CW⟩:=Reg.xB;obtain ⟨Ergz,Hrgzst,Hq,Is,GX,G6,GE,CD,GR,Hh,Ha,G3,Fs,Fo,Bh,Fp,EW,ET,Fz,Fi,EX,Fj⟩:=Reg.e20 Xrgz
     (fun xx _=>xx=.pointer (some ⟨gp,0,none⟩))
     (fun xx _=>xx=.agg #[.slice vo2 nL2 vk2,.int .i64 p1.r,.int .i64 p1.c,.bool p1.pd,.bool p1.au,.slice go2 nG2 gk2,.slice bo2 nB2 bk2,.int .i64 ((aA st0 B1).length:Nat)])
     (fun x w'=>∃ v',x=.agg #[v',.int .i64 Q.r,.int .i64 Q.c,.bool Q.pd,.bool Q.au]/\HeldE lineE (fun _=>True) w' v' Q.L)
     (fun xx _=>xx=.bool true)
     (fun xx _=>xx=.bool false)
     (fun xx _=>xx=.bool false)
     (fun xx _=>xx=.pointer (some ⟨gf,0,none⟩))
     (fun xx _=>xx=.int .i64 IF)
     (fun xx _=>xx=.agg #[.slice vo2 nL2 vk2,.int .i64 p1.r,.int .i64 p1.c,.bool p1.pd,.bool p1.au,.slice go2 nG2 gk2,.slice bo2 nB2 bk2,.int .i64 ((aA st0 B1).length:Nat)])
     (fun xx _=>xx=.int .i64 IF)
     (fun xx _=>xx=.bool false)
     (fun xx _=>xx=.bool false)
     (fun xx _=>xx=.bool false)
     (fun xx _=>xx=.pointer (some ⟨gf,0,none⟩))
     (fun x w'=>HeldE (aE .i32) (fun _=>True) w' x OT)
     (fun xx _=>xx=.agg #[.slice vo2 nL2 vk2,.int .i64 p1.r,.int .i64 p1.c,.bool p1.pd,.bool p1.au,.slice go2 nG2 gk2,.slice bo2 nB2 bk2,.int .i64 ((aA st0 B1).length:Nat)])
     (fun x w'=>HeldE (aE .i32) (fun _=>True) w' x OT)
     (fun xx _=>xx=.bool true)
     (fun xx _=>xx=.bool false)
     (fun xx _=>xx=.bool false)
     (s2:=fun x w w1 hx h=>by rw [FV] at hx;first | exact HeldE.below h hx | (obtain ⟨v,e,h⟩:=h;exact ⟨v,e,h.below hx⟩))
     (s14:=fun x w w1 hx h=>by rw [FV] at hx;first | exact HeldE.below h hx | (obtain ⟨v,e,h⟩:=h;exact ⟨v,e,h.below hx⟩))
     (s16:=fun x w w1 hx h=>by rw [FV] at hx;first | exact HeldE.below h hx | (obtain ⟨v,e,h⟩:=h;exact ⟨v,e,h.below hx⟩))
    have Do:Hid (∀ i L w, B9 L w->B9 (L.setIfInBounds i true) w):=ab (by
     intro i L w h;rw [F7] at h ⊢;exact h)
    have Eg:Hid (∀ L w w1,B9 L w->Below w.heap.size w w1->B9 L w1):=ab (by
     intro L w w1 h hb;rw [F7] at h ⊢;exact h.trans (hb.mono h.size))
    have Hrgzc:=ab (show B9 (Array.replicate 20 false) w5.drew from by rw [F7];exact (Below.refl _ _).drew);have BG:=ab (fun (i:Nat) L w v (h:B9 L w) (e:Ergz i v w)=>Reg.hk (Do.out i L w h) e (J1.out w));have A5:=ab F7;have HrgzhX:=ab FV;clear F7 FV
    go_wp2_with fail
    refine Reg.regionF Ergz B9 Xrgz Hrgzst.out (by kernel_rfl) (by kernel_rfl) (by kernel_rfl) Hrgzc.out (fun Frgz AH=>?_);simp only [Reg.frame,Reg.dsts,List.map_cons,List.map_nil,Mix.put_lit,List.set_cons_succ,List.set_cons_zero,Nat.zero_add,Nat.reduceAdd] at AH;refine ⟨⟨?_,?_,?_,?_,?_,?_,?_,?_,?_,?_,?_,?_,?_,?_,?_,?_,?_,?_,?_,?_,trivial⟩,?_⟩
    ·intro Lq wq xq hh;simp only [AH];refine Reg.go rfl ?_;have HK:=BG.out 0 _ _ _ hh.cls ((Hq.out _ _).mpr rfl);go_simp;exact HK.out
    ·intro Lq wq xq hh;simp only [AH];refine Reg.go rfl ?_;have hc:B9 Lq wq:=hh.cls;rw [A5.out] at hc;have hq:=E0.out.hasAt I3.out.1 hc;have q0:=hq.cell 0 _ rfl;have q1:=hq.cell 1 _ rfl;have q2:=hq.cell 2 _ rfl;have q3:=hq.cell 3 _ rfl;have q4:=hq.cell 4 _ rfl;have q5:=hq.cell 5 _ rfl;have q6:=hq.cell 6 _ rfl;have q7:=hq.cell 7 _ rfl;clear hc;have HK:=BG.out 1 _ _ _ hh.cls ((Is.out _ _).mpr rfl);go_simp;exact HK.out
    ·intro Lq wq xq hh;simp only [AH,(Is.out _ _).mp (hh.v 1)];refine Reg.go rfl ?_;unfold Reg.upon;have hc:B9 Lq wq:=hh.cls;rw [A5.out] at hc;have MY:=Nr.out wq hc;go_simp;refine MY.mono ?_;rintro e w2 ⟨x,rfl,hx,hb⟩;exact ⟨_,rfl,Do.out 2 Lq w2  (Eg.out Lq wq w2 hh.cls hb),(by rw [GX.out];exact hx),CW.out wq w2 hb⟩
    ·intro Lq wq xq hh;have d2:=(GX.out _ _).mp (hh.v 2);simp only [AH,(Hq.out _ _).mp (hh.v 0)];refine Reg.go rfl ?_;unfold Reg.upon;have hc:B9 Lq wq:=hh.cls;rw [A5.out] at hc;obtain ⟨v',ev,hv'⟩:=d2;obtain ⟨Yo,hp⟩:=HPN2.out;have I1:=tT BB gp gg gr wd R1 Q.L Q.r Q.c Q.pd Q.au _ v' wq (hp.any.below hc) hv';rw [ev];go_simp;refine I1.mono ?_;rintro e w2 ⟨rfl,hb⟩;exact ⟨_,rfl,Do.out 3 Lq w2  (Eg.out Lq wq w2 hh.cls hb),(by rw [G6.out]),CW.out wq w2 hb⟩
    ·intro Lq wq xq hh;simp only [AH,(G6.out _ _).mp (hh.v 3)];refine Reg.go rfl ?_;have HK:=BG.out 4 _ _ _ hh.cls ((GE.out _ _).mpr rfl);go_simp;exact HK.out
    ·intro Lq wq xq hh;simp only [AH,(GE.out _ _).mp (hh.v 4)];refine Reg.go rfl ?_;have HK:=BG.out 5 _ _ _ hh.cls ((CD.out _ _).mpr rfl);go_simp;exact HK.out
    ·intro Lq wq xq hh;simp only [AH,(CD.out _ _).mp (hh.v 5)];refine Reg.go rfl ?_;have HK:=BG.out 6 _ _ _ hh.cls ((GR.out _ _).mpr rfl);go_simp;exact HK.out
    ·intro Lq wq xq hh;simp only [AH,(CD.out _ _).mp (hh.v 5),(GR.out _ _).mp (hh.v 6)];refine Reg.go rfl ?_;unfold Reg.upon;have hc:B9 Lq wq:=hh.cls;rw [A5.out] at hc;go_simp;refine (HFH.out wq hc).mono ?_;rintro e w2 ⟨rfl,rfl⟩;exact ⟨_,rfl,Do.out 7 Lq wq  hh.cls,(by rw [Hh.out];try rfl),J1.out _⟩
    ·intro Lq wq xq hh;simp only [AH,(CD.out _ _).mp (hh.v 5)];refine Reg.go rfl ?_;have hc:B9 Lq wq:=hh.cls;rw [A5.out] at hc;have hq:=E0.out.hasAt I3.out.1 hc;have q0:=hq.cell 0 _ rfl;have q1:=hq.cell 1 _ rfl;have q2:=hq.cell 2 _ rfl;have q3:=hq.cell 3 _ rfl;have q4:=hq.cell 4 _ rfl;have q5:=hq.cell 5 _ rfl;have q6:=hq.cell 6 _ rfl;have q7:=hq.cell 7 _ rfl;clear hc;have HK:=BG.out 8 _ _ _ hh.cls ((Ha.out _ _).mpr rfl);go_simp;exact HK.out
    ·intro Lq wq xq hh;simp only [AH,(CD.out _ _).mp (hh.v 5),(Ha.out _ _).mp (hh.v 8)];refine Reg.go rfl ?_;unfold Reg.upon;have hc:B9 Lq wq:=hh.cls;rw [A5.out] at hc;go_simp;refine (FB.out wq hc).mono ?_;rintro e w2 ⟨rfl,hb⟩;exact ⟨_,rfl,Do.out 9 Lq w2  (Eg.out Lq wq w2 hh.cls hb),(by rw [G3.out];try rfl),CW.out wq w2 hb⟩
    ·intro Lq wq xq hh;simp only [AH,(CD.out _ _).mp (hh.v 5),(Hh.out _ _).mp (hh.v 7),(G3.out _ _).mp (hh.v 9)];refine Reg.go rfl ?_;have hc:B9 Lq wq:=hh.cls;rw [A5.out] at hc;have q1:(IF != IF)=false:=by simp
     clear hc;have HK:=BG.out 10 _ _ _ hh.cls ((Fs.out _ _).mpr rfl);go_simp;exact HK.out
    ·intro Lq wq xq hh;simp only [AH,(CD.out _ _).mp (hh.v 5),(Fs.out _ _).mp (hh.v 10)];refine Reg.go rfl ?_;have HK:=BG.out 11 _ _ _ hh.cls ((Fo.out _ _).mpr rfl);go_simp;exact HK.out
    ·intro Lq wq xq hh;simp only [AH,(Fo.out _ _).mp (hh.v 11)];refine Reg.go rfl ?_;have HK:=BG.out 12 _ _ _ hh.cls ((Bh.out _ _).mpr rfl);go_simp;exact HK.out
    ·intro Lq wq xq hh;simp only [AH,(Bh.out _ _).mp (hh.v 12)];refine Reg.go rfl ?_;have HK:=BG.out 13 _ _ _ hh.cls ((Fp.out _ _).mpr rfl);go_simp;exact HK.out
    ·intro Lq wq xq hh;simp only [AH,(Bh.out _ _).mp (hh.v 12),(Fp.out _ _).mp (hh.v 13)];refine Reg.go rfl ?_;unfold Reg.upon;have hc:B9 Lq wq:=hh.cls;rw [A5.out] at hc;have MY:=HFO.out wq hc;go_simp;refine MY.mono ?_;rintro e w2 ⟨x,rfl,hx,hb⟩;exact ⟨_,rfl,Do.out 14 Lq w2  (Eg.out Lq wq w2 hh.cls hb),(by rw [EW.out];exact hx.zone fun _ _ _=>trivial),CW.out wq w2 hb⟩
    ·intro Lq wq xq hh;simp only [AH,(Bh.out _ _).mp (hh.v 12)];refine Reg.go rfl ?_;have hc:B9 Lq wq:=hh.cls;rw [A5.out] at hc;have hq:=E0.out.hasAt I3.out.1 hc;have q0:=hq.cell 0 _ rfl;have q1:=hq.cell 1 _ rfl;have q2:=hq.cell 2 _ rfl;have q3:=hq.cell 3 _ rfl;have q4:=hq.cell 4 _ rfl;have q5:=hq.cell 5 _ rfl;have q6:=hq.cell 6 _ rfl;have q7:=hq.cell 7 _ rfl;clear hc;have HK:=BG.out 15 _ _ _ hh.cls ((ET.out _ _).mpr rfl);go_simp;exact HK.out
    ·intro Lq wq xq hh;simp only [AH,(Bh.out _ _).mp (hh.v 12),(ET.out _ _).mp (hh.v 15)];refine Reg.go rfl ?_;unfold Reg.upon;have hc:B9 Lq wq:=hh.cls;rw [A5.out] at hc;have MY:=Lp.out wq hc;go_simp;refine MY.mono ?_;rintro e w2 ⟨x,rfl,hx,hb⟩;exact ⟨_,rfl,Do.out 16 Lq w2  (Eg.out Lq wq w2 hh.cls hb),(by rw [Fz.out];exact hx),CW.out wq w2 hb⟩
    ·intro Lq wq xq hh;have d14:=(EW.out _ _).mp (hh.v 14);have d16:=(Fz.out _ _).mp (hh.v 16);simp only [AH,(Bh.out _ _).mp (hh.v 12)];refine Reg.go rfl ?_;unfold Reg.upon;have hc:B9 Lq wq:=hh.cls;rw [A5.out] at hc;have hsm:=ly _ _ OT OT wq d14.ints d16.ints (by have:=HOT.out;omega);rw [lx] at hsm;go_simp;refine hsm.mono ?_;rintro e w2 ⟨rfl,hb⟩;exact ⟨_,rfl,Do.out 17 Lq w2  (Eg.out Lq wq w2 hh.cls hb),(by rw [Fi.out]),CW.out wq w2 hb⟩
    ·intro Lq wq xq hh;simp only [AH,(Bh.out _ _).mp (hh.v 12),(Fi.out _ _).mp (hh.v 17)];refine Reg.go rfl ?_;have HK:=BG.out 18 _ _ _ hh.cls ((EX.out _ _).mpr rfl);go_simp;exact HK.out
    ·intro Lq wq xq hh;simp only [AH,(Bh.out _ _).mp (hh.v 12),(EX.out _ _).mp (hh.v 18)];refine Reg.go rfl ?_;have HK:=BG.out 19 _ _ _ hh.cls ((Fj.out _ _).mpr rfl);go_simp;exact HK.out
    intro xq wrgz Gc hvrgz;rw [A5.out] at Gc;simp only [AH];have vrgz19:=(Fj.out _ _).mp (hvrgz 19 (by decide));rw [vrgz19];clear hvrgz AH BG Do J1 Hrgzst Hrgzc A5 HrgzhX Eg CW Hq Is GX G6 GE CD GR Hh Ha G3 Fs Fo Bh Fp EW ET Fz Fi EX Fj;have HZQ:=ab (E0.out.below I3.out.1 Gc);have HZF:=ab (I3.out.below Gc);have HZB:=ab (Jj.out.trans (Gc.mono Jj.out.size));clear Gc;go_wp2
    go_roundw
    case rel=>exact ⟨i+1,R1,p1,G1,B1,op1,_,_,_,by omega,by go_num,HZF.out,HZQ.out,HZB.out,DN.out.1,DN.out.2.1,DN.out.2.2.1,AL.out.1,AL.out.2⟩
    case measure=>simp [intOf] <;> omega
  ·obtain rfl:i=m:=by omega
   go_wp2;go_ret;exact ⟨af,HB.out⟩
theorem acts_arg{H:Type}{enc:TypeId × Value->H}{W:World}{base:Nat}{v:Value}{d:DataW H}{p:List MemPlace}(hv:Value.okWide Tryz.prog W .any base 61 v)(h:DataW.Trod enc Tryz.prog W 0 (fun _=>true) true 61 v d p):∃ L,HeldE actE (fun _=>True) W v L/\∀ x ∈ L,∀ y ∈ x.2.1,0<=y/\y<=255:=by
 obtain ⟨L,hL,Bt⟩:=sU (E:=actE) Tryz.underlying61 (by kernel_rfl) (by decide) (n7 Tryz.underlying68 (by kernel_rfl) rfl rfl rfl (jV (k:=.i64) Tryz.underlying3 (by kernel_rfl)) (ks Tryz.underlying55 (by kernel_rfl) (by decide) (jV (k:=.u8) Tryz.underlying5 (by kernel_rfl))) (jV (k:=.i32) Tryz.underlying21 (by kernel_rfl))) hv h;refine ⟨L,hL.zone (fun _ _ _=>trivial),fun x hx y hy=>?_⟩;have:=bounds_u8 ((Bt x hx).2.1 y hy);omega
theorem walk{H:Type}{enc:TypeId × Value->H}(W:World)(a:Int)(_:(Lit.int .i64 a).wf=true)(b:Int)(_:(Lit.int .i64 b).wf=true)(u:Value){base:Nat}{d:DataW H}{p:List MemPlace}(hv:Value.okWide Tryz.prog W .any base 61 u)(h:DataW.Trod enc Tryz.prog W 0 (fun _=>true) true 61 u d p)(_:laidMetH Tryz.prog Rows.feedPlaysRow.laid W):Calls Tryz.prog 5 #[.int .i64 a,.int .i64 b,u] W (Yes W):=by
 obtain ⟨A,hA,Bt⟩:=acts_arg hv h;exact walkH W a b u A _ hA Bt
theorem door_met(os:Os):laidMetH Tryz.prog Rows.feedPlaysRow.laid ((World.doorLaid Tryz.prog 400 os).forCall (fun _ _=>0) ⟨#[],#[.int .i64 0,.int .i64 0,.slice none 0 0],[]⟩).memory :=
 laidMetH_of_parts3 (fuel:=8) (laidMet_of_run' 8 (by kernel_rfl) (by kernel_rfl)) (by kernel_rfl) (by kernel_rfl)
theorem lifted(os:Os)(started:os.Started)(H:Type)(enc:TypeId × Value->H) :
  ReturnsInHanded {} Tryz.checked os 5 .any (fun w args=>(Rows.feedPlaysSpec.pre enc Tryz.prog Tryz.f5 [] false w args/\laidMetH Tryz.prog Rows.feedPlaysRow.laid w)/\sizedMet enc Tryz.prog Tryz.f5 (OpenSpec.ofChange Rows.feedPlaysSpec) false w args)
   (Rows.feedPlaysSpec.post enc Tryz.prog Tryz.f5 false true false false):=by
 refine sT (C:=Tryz.checked) (tb:=4) (by kernel_rfl) started (by kernel_rfl) Tryz.func5 (by kernel_rfl) (by kernel_rfl) Tryz.underlying4 rfl
  (by rw [Tryz.params5];intro t ht;simp at ht;rcases ht with rfl | rfl <;> exact ⟨by kernel_rfl,of_decide_eq_true (by kernel_rfl)⟩)
  (by rw [Tryz.params5];intro ds hd;match ds,hd with | [_,_,_],_=>rfl)
  (ChangeSpec.witness_shaped (enc:=enc) (C:=Tryz.checked) (os:=os) (X:=fun w _=>laidMetH Tryz.prog Rows.feedPlaysRow.laid w) false (World.doorLaid Tryz.prog 400 os) #[.int .i64 0,.int .i64 0,.slice none 0 0] 8 rfl (World.shaped_of_RefB (by kernel_rfl) (by kernel_rfl)) (by kernel_rfl) (by kernel_rfl) (by kernel_rfl) (door_met os)) ?_
 intro W base args ds before hval hA hsz hL;rw [Tryz.params5] at hA hval;obtain ⟨v0,vs0,d0,ds0,p0,q0,hargs,rfl,rfl,h0,r0⟩:=trodAll_cons hA;obtain ⟨v1,vs1,d1,ds1,p1,q1,rfl,rfl,rfl,h1,r1⟩:=trodAll_cons r0;obtain ⟨v2,vs2,d2,ds2,p2,q2,rfl,rfl,rfl,h2,r2⟩:=trodAll_cons r1;obtain ⟨rfl,rfl,rfl⟩:=trodAll_nil r2;obtain rfl:args=#[v0,v1,v2]:=by cases args;simp_all
 obtain ⟨x0,rfl,rfl,rfl,wx0⟩:=open_int Tryz.underlying3 (hval 0 3 v0 rfl rfl) h0;obtain ⟨x1,rfl,rfl,rfl,wx1⟩:=open_int Tryz.underlying3 (hval 1 3 v1 rfl rfl) h1;exact walk W x0 wx0 x1 wx1 v2 (hval 2 61 v2 rfl rfl) h2 hL
theorem and_two{a b:Bool}(ha:a=true)(hb:b=true):(a && b)=true:=by rw [ha,hb];rfl
theorem joined:joinedFacts Tryz.pinned.checked.prog 5 Tryz.f5 Rows.feedPlaysSpec Rows.feedPlaysRow=true:=by
 unfold joinedFacts
 repeat' (with_reducible refine and_two ?_ ?_)
 all_goals (as_aux_lemma=>kernel_rfl)
theorem said:Rows.FeedPlaysSaid :=
 OpenClaim.holds_of_wide 5 Tryz.f5 rfl rfl rfl rfl rfl rfl rfl ⟨rfl,rfl,rfl,rfl,rfl⟩ rfl rfl rfl rfl rfl (by kernel_rfl) Tryz.func5 joined
  (of_decide_eq_true (by kernel_rfl)) (by unfold Func.isWrapper;first | (rw [if_pos (by decide +kernel)];kernel_rfl) | (rw [if_neg (by decide +kernel)];exact ⟨rfl,rfl⟩))
  (fun os started H enc _=>lifted os started H enc)
theorem plain (f : FuncId) (fn : Func) (hf : Tryz.pinned.checked.prog.funcNamed "linotype/linotypelaw37.FeedPlays" = some f) (hfn : Tryz.pinned.checked.prog.funcs[f]? = some fn) :
  true=Tryz.pinned.checked.prog.looks []/\∀ (j:Nat) t,fn.params[j]? = some t->Tryz.pinned.checked.prog.wantsStandIn t=false:=by
 obtain rfl : f = 5 := Option.some.inj ((show Tryz.prog.funcNamed "linotype/linotypelaw37.FeedPlays" = some 5 by kernel_rfl).symm.trans hf) |>.symm
 obtain rfl:fn=Tryz.f5:=(Option.some.inj (Tryz.func5.symm.trans hfn)).symm;refine ⟨by kernel_rfl,fun j t ht=>?_⟩;rw [Tryz.params5] at ht;have hm:t ∈ [3,3,61]:=by simpa using Array.mem_of_getElem? ht
 have hall:([3,3,61].all fun u=>!Tryz.prog.wantsStandIn u)=true:=by kernel_rfl
 exact (show Tryz.prog.wantsStandIn t=false by simpa using List.all_eq_true.1 hall t hm)
theorem card:Rows.FeedPlaysCardSaid :=
 Claim7.holds_tied_plain_at .later [] _ _ _ _ said (fun _ h=>by cases h) (by kernel_rfl) (fun _ h=>by cases h) feedPlays_row_tie rfl ⟨rfl,rfl⟩ (by kernel_rfl) rfl plain (by kernel_rfl)
#print axioms card
end Go.Proofs.YtoeggiplcaegoaaGreatDoor.lawFeedPlays
