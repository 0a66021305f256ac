import Derived.Test.YtechjomepdahiaaDoorZ0
import Derived.Test.YtechjomepdahiaaDoorMg8
import Derived.Test.YtechjomepdahiaaDoorItmC
import Derived.Test.YtechjomepdahiaaDoorMg2
import Derived.Deep.Cut
set_option maxRecDepth 100000
set_option linter.unusedVariables false
set_option linter.unusedSimpArgs false
set_option maxHeartbeats 3000000
namespace Go.Proofs.YtechjomepdahiaaDoor
open Go.RowKit Go.ChangeShapes Go.WideShapes
theorem cl(L:List Cl):∀ k,aH L k<k->(L.getD (aH L k) zc).1=0
 |0=>fun h=>absurd h (Nat.not_lt_zero _)
 |k+1=>fun h=>by
  have hle:=ci L k;have ih:=cl L k;unfold aH at h ⊢
  by_cases h0:(L.getD k zc).1=0
  ·rw [if_pos h0] at h ⊢
   rcases Nat.lt_or_ge (aH L k) k with h1 | h1
   ·exact ih h1
   ·rw [show aH L k=k by omega];exact h0
  ·rw [if_neg h0] at h;omega
theorem dy(L:List Cl)(g:Bool):aL L g<=L.length/\(aL L g<L.length->(L.getD (aL L g) zc).1=0):=by
 unfold aL
 cases g with
 |true =>
  rw [if_pos rfl]
  by_cases h0:(L.getD (L.length - 1) zc).1=0
  ·rw [if_pos h0];exact ⟨Nat.sub_le _ _,fun _=>h0⟩
  ·rw [if_neg h0];exact ⟨Nat.le_refl _,fun h=>absurd h (Nat.lt_irrefl _)⟩
 |false =>
  rw [if_neg (by decide)];exact ⟨ci L _,fun h=>cl L _ h⟩
theorem cz{L:List Cl}(g:Bool)(h:aj L=true):aj (L.take (aL L g))=true:=by
 obtain ⟨h1,h2⟩:=dy L g;obtain ⟨m,hm⟩:=ab (aL L g);rw [<-hm] at h1 h2 ⊢;rw [d8] at h ⊢;intro i hi;rw [List.length_take] at hi;obtain ⟨a,b,c⟩:=h i (by omega);rw [ch,if_pos (by omega)];refine ⟨a,fun e=>?_,fun e=>?_⟩
 ·have:=b e;rw [ch]
  split
  ·exact this
  ·rename_i hn
   exfalso;have e1:i+1=m:=by omega
   rw [e1] at this
   rcases Nat.lt_or_ge m L.length with h3 | h3
   ·have:=h2 h3;omega
   ·have hz:L.getD m zc=zc:=by simp [List.getD,List.getElem?_eq_none h3]
    rw [hz] at this;exact absurd this (by decide)
 ·have:=c e;refine ⟨this.1,?_⟩;rw [ch,if_pos (by omega)];exact this.2
def bO(Ls:List Ln)(i:Nat):Bool:=(Ls.getD i zl).2 && decide (i+1<Ls.length)
def aO(Ls:List Ln)(i:Nat):List Cl:=al ((Ls.getD i zl).1.take (aL (Ls.getD i zl).1 (bO Ls i)))
def aB(Ls:List Ln):Nat->List (List Cl) × List Cl
 | 0=>([],[])
 | k+1=>if bO Ls k=true then ((aB Ls k).1,(aB Ls k).2++aO Ls k) else ((aB Ls k).1++[(aB Ls k).2++aO Ls k],[])
def bC(Ls:List Ln):List (List Cl):=(aB Ls Ls.length).1
theorem cA(Ls:List Ln)(i:Nat):(aO Ls i).length<=(Ls.getD i zl).1.length:=by
 unfold aO;refine Nat.le_trans (dj _) ?_;rw [List.length_take];omega
theorem cB(Ls:List Ln):∀ k,(aB Ls k).1.length<=k/\(aB Ls k).2.length<=aV Ls k
 |0=>⟨Nat.le_refl _,Nat.zero_le _⟩
 |k+1=>by
  have ih:=cB Ls k;have hp:=cA Ls k;unfold aB aV
  split
  ·exact ⟨by show (aB Ls k).1.length<=k+1;omega,by rw [List.length_append];omega⟩
  ·exact ⟨by rw [List.length_append];show _+1<=k+1;omega,Nat.zero_le _⟩
theorem eT(Ls:List Ln)(i:Nat)(h:i<Ls.length):(Ls.getD i zl).1.length<=aV Ls Ls.length:=by
 have h1:=cR Ls (show i+1<=Ls.length from h);have h2:aV Ls (i+1)=aV Ls i+(Ls.getD i zl).1.length:=rfl;omega
theorem eU:(Tryd.prog.info? 22).map (fun i=>(i.zero,i.size,i.bytes))=some (some (.slice none 0 0),cellsE.size,24):=by kernel_rfl
def bZ(w:World)(B s:Nat)(A:List (List Cl))(p:List Cl)(all long:Value)(wx:World):Prop :=
 OwnE cellsE (fun b=>0<=b/\b<s) wx B 22 all A/\(∀ b,all.ownBlock=some b->b<s)/\OwnE cellE (fun b=>s<=b) wx s 27 long p/\Below w.heap.size w wx/\B<=s/\s<=wx.heap.size
theorem en(v:Value)(Ls:List Ln)(w:World)(hv:HeldE lineE (fun b=>b<w.heap.size) w v Ls)(hl:Ls.length<=1000000)(ht:aV Ls Ls.length<=1000000)(hs:∀ k,k<Ls.length->aj (Ls.getD k zl).1=true):Calls Tryd.prog 14 #[v] w (fun e w'=>∃ u,e=.returned (.tuple #[u,.nilIface])/\OwnE cellsE (fun _=>True) w' w.heap.size 22 u (bC Ls)/\Below w.heap.size w w'):=by
 obtain ⟨ao,cap,rfl⟩:=hv.len;obtain ⟨fJ,fO,iE⟩:=cI hv;clear fJ;have ie:=aa iE;have iq:=aa hs;have HT:=aa ht;obtain ⟨n,hn⟩:=ab (Ls.length);have HN:=aa hn;rw [<-hn] at hl fO ⊢;clear iE hn hs ht hv
 go_enter Tryd.func14,Tryd.ntmps14
 go_wp2
 go_loopw [15] (fun i wr=>∃ k:Nat,k<=n/\i=.int .i64 k/\Below w.heap.size w wr) (fun i _=>n - (intOf i).toNat)
 case atStart=>exact ⟨0,Nat.zero_le _,rfl,Below.refl _ _⟩
 case round =>
  obtain ⟨k,hk,rfl,hb⟩:=hrel;obtain ⟨wo,hU⟩:=ab (wr);subst hU;have f7:=aa hb;clear hb
  by_cases hkn:k<n
  ·have d1:(k:Int)<(n:Int):=by omega
   have jx:k<Ls.length:=by rw [<-HN.out];exact hkn
   obtain ⟨b,off,tv,e0,hb,_,c0,c1,hh⟩:=ie.out k jx;subst e0;have fM:=iq.out k jx;obtain ⟨⟨C,g⟩,g4⟩ : ∃ y,y=Ls.getD k zl:=⟨_,rfl⟩;rw [<-g4] at c1 hh fM;simp only at c1 hh fM;obtain ⟨tx,tc,etv⟩:=hh.len;subst etv;have c0:=(f7.out.cell (p:=⟨b,off+k * 2,none⟩) hb).trans c0;have c1:=(f7.out.cell (p:=⟨b,off+k * 2+1,none⟩) hb).trans c1;obtain ⟨W1,hW1⟩:=ab (wo.alloc (.cells [Value.slice tx C.length tc,.bool g].toArray 69));have hb1:Below wo.heap.size wo W1:=by rw [hW1];exact af _ _
   have fN:Has W1 wo.heap.size [.slice tx C.length tc,.bool g] 69:=by rw [hW1];exact Has.new wo _ _
   have ia:=aa (show wo.alloc (.cells #[Value.slice tx C.length tc,.bool g] 69)=W1 from by rw [hW1]);obtain ⟨gp,fV⟩:=ab (wo.heap.size);have g5:=aa fV;rw [<-fV] at fN;have fA:=aa (f7.out.trans (hb1.mono f7.out.size));have fX:=aa (da _ (.slice tx C.length tc) C W1 (hh.below fA.out));rw [fM] at fX;have z0:=fN.cell 0 _ rfl;have iJ:k<cap:=by omega
   clear g4 hb hh fM hW1 hb1 fN fV jx
   go_upto_region 4 with (fail)
   rw [ia.out,<-g5.out];clear c0 c1
   go_wp2_with fail
   refine (fX.out).mono ?_;rintro e w2 ⟨rfl,b2⟩;have HF:=aa (fA.out.trans (b2.mono fA.out.size));clear b2 z0;go_wp2
   go_roundw
   case rel=>exact ⟨k+1,by omega,by go_num,HF.out⟩
   case measure=>simp [intOf] <;> omega
  ·obtain rfl:k=n:=by omega
   have d1:¬ (k:Int)<(k:Int):=by omega
   obtain ⟨B,hB⟩:=ab (wo.heap.size);have gA:=aa (show w.heap.size<=B from by rw [hB];exact f7.out.size);have HS0:=aa (show bZ w B B [] [] (.slice none 0 0) (.slice none 0 0) wo from ⟨OwnE.nil _ _ _ _ _,(fun b e=>by cases e),OwnE.nil _ _ _ _ _,f7.out,Nat.le_refl _,by omega⟩);clear hkn hk hB;go_wp2
   go_loopw [6,7,30] (fun av pv iv wr=>∃ (i s:Nat) (A:List (List Cl)) (p:List Cl),i<=k/\iv=.int .i64 i/\Hid ((A,p)=aB Ls i)/\Hid (bZ w B s A p av pv wr)) (fun _ _ iv _=>k - (intOf iv).toNat)
   case atStart=>exact ⟨0,B,[],[],Nat.zero_le _,rfl,aa rfl,HS0⟩
   case round =>
    clear HS0;obtain ⟨i,s,A,p,hi,rfl,HK,HST⟩:=hrel;obtain ⟨wp,iT⟩:=ab (wr);subst iT;have gm:=aa (cB Ls i);rw [<-HK.out] at gm;simp only at gm
    by_cases hik:i<k
    ·have d2:(i:Int)<(k:Int):=by omega
     have gF:i<Ls.length:=by rw [<-HN.out];exact hik
     obtain ⟨b,off,tv,e0,hb,_,c0,c1,hh⟩:=ie.out i gF;subst e0;have fM:=iq.out i gF;have g0:=eT Ls i gF;obtain ⟨⟨C,g⟩,g4⟩ : ∃ y,y=Ls.getD i zl:=⟨_,rfl⟩;rw [<-g4] at c1 hh fM g0;simp only at c1 hh fM g0;obtain ⟨go,hgo⟩:=ab (bO Ls i);have gX:=aa (show go=(g && decide (i+1<k)) from by rw [hgo];unfold bO;rw [<-g4,HN.out]);have HPA:=aa (show aO Ls i=al (C.take (aL C go)) from by unfold aO;rw [<-g4,<-hgo]);obtain ⟨tx,tc,etv⟩:=hh.len;subst etv;have fB:=HST.out.2.2.2.1;have c0:=(fB.cell (p:=⟨b,off+i * 2,none⟩) hb).trans c0;have c1:=(fB.cell (p:=⟨b,off+i * 2+1,none⟩) hb).trans c1;obtain ⟨W1,hW1⟩:=ab (wp.alloc (.cells [Value.slice tx C.length tc,.bool g].toArray 69));have hb1:Below wp.heap.size wp W1:=by rw [hW1];exact af _ _
     have fN:Has W1 wp.heap.size [.slice tx C.length tc,.bool g] 69:=by rw [hW1];exact Has.new wp _ _
     have ia:=aa (show wp.alloc (.cells #[Value.slice tx C.length tc,.bool g] 69)=W1 from by rw [hW1]);obtain ⟨gp,fV⟩:=ab (wp.heap.size);have g5:=aa fV;rw [<-fV] at fN;have ig:=fB.trans (hb1.mono fB.size);have gP:=aa (show bZ w B s A p u6 u7 W1 from by
      obtain ⟨a1,a2,a3,a4,a5,a6⟩:=HST.out;exact ⟨a1.below hb1,a2,a3.below hb1,a4.trans (hb1.mono a4.size),a5,Nat.le_trans a6 hb1.size⟩)
     have i4:=aa (dz _ tx C.length tc C go W1 (hh.below ig));have HCH:=aa (cu (hh.below ig) (aL C go) (dy C go).1);have HCS:=aa (cz go fM);have gW:=aa (show (C.take (aL C go)).length<=1000000 from by rw [List.length_take];have:=HT.out;omega);have HIO:=aa (fu _ _ _ W1 HCH.out gW.out HCS.out);rw [<-HPA.out] at HIO;have z0:=fN.cell 0 _ rfl;have z1:=fN.cell 1 _ rfl;have hic:i<cap:=by omega
     have hwi:IntKind.i64.wrap ((i:Int)+1)=((i+1:Nat):Int):=by rw [IntKind.wrap_i64];omega
     have iu:=aa (show (aO Ls i).length<=1000000/\p.length<=1000000/\A.length<=1000000 from by
      have h1:=cA Ls i;have h2:=eT Ls i gF;have h3:=HT.out;have h4:=gm.out;have h5:=cR Ls (Nat.le_of_lt gF);omega)
     have iZ:=aa (show aB Ls (i+1)=if go=true then (A,p++aO Ls i) else (A++[p++aO Ls i],[]) from by
      show (if bO Ls i=true then ((aB Ls i).1,(aB Ls i).2++aO Ls i) else ((aB Ls i).1++[(aB Ls i).2++aO Ls i],[]))=_;rw [<-HK.out,<-hgo])
     clear g4 hb hh fM hW1 hb1 fN fV gF g0 hgo fB ig HST
     go_upto_region 12 with (fail)
     rw [ia.out,<-g5.out];clear c0 c1
     go_cut [10] from 35 to 43 (fun gv wx=>gv=.bool go/\wx=W1)
     case first =>
      have hg:=gX.out
      cases g with
      |false =>
       rw [Bool.false_and] at hg;subst hg;clear gX;go_wp2;go_meet
       case rel=>exact ⟨rfl,rfl⟩
      |true =>
       rw [Bool.true_and] at hg
       by_cases hlast:i+1<k
       ·have d3:decide ((i:Int)+1<(k:Int))=true:=ag (by omega);have d4:(i:Int)+1<(k:Int):=by omega
        rw [decide_eq_true hlast] at hg;subst hg;clear gX hlast;go_wp2;go_meet
        case rel=>exact ⟨by first | rfl | (congr 1;simp;omega),rfl⟩
       ·have d3:decide ((i:Int)+1<(k:Int))=false:=ah (by omega);have d4:¬ (i:Int)+1<(k:Int):=by omega
        rw [decide_eq_false hlast] at hg;subst hg;clear gX hlast;go_wp2;go_meet
        case rel=>exact ⟨by first | rfl | (congr 1;simp;omega),rfl⟩
     case rest =>
      obtain ⟨rfl,jQ⟩:=hcut;obtain ⟨wq,hwq⟩:=ab (wc);subst hwq;subst jQ;clear z1 gX hwi
      go_upto_region 13 with (fail)
      go_wp2_with fail
      refine (i4.out).mono ?_;rintro e w2 ⟨rfl,rfl⟩;clear z0
      go_wp2_with fail
      refine (HIO.out).mono ?_;rintro e w3 ⟨iv,rfl,hio,b3⟩;have hst3:bZ w B s A p u6 u7 w3:=by
       obtain ⟨a1,a2,a3,a4,a5,a6⟩:=gP.out;exact ⟨a1.below b3,a2,a3.below b3,a4.trans (b3.mono a4.size),a5,Nat.le_trans a6 b3.size⟩
      have ji:=aa hst3;have hX:=(hio.held (fun b hb _=>hb)).zone (Y:=fun b=>s<=b/\u7.ownBlock≠some b) (fun b _ hz=>⟨Nat.le_trans gP.out.2.2.2.2.2 hz,fun e=>by have:=(gP.out.2.2.1.lt b e).2;omega⟩);have HX:=aa hX;obtain ⟨P,hP⟩:=ab (aO Ls i);rw [<-hP] at HX iu iZ;clear hst3 hX hio b3 gP hP
      go_upto_region 16 with (fail)
      go_wp2_with (at_builtin;refine an (E:=cellE) (Z:=fun b=>s<=b) rfl (.tmp 57) (.tmp 58) 22 rfl (.agg #[.int .i64 0,.slice none 0 0]) 32 Tryd.underlying22 bB rfl (by decide) rfl rfl ji.out.2.2.1 HX.out (by have:=iu.out;omega) (by have:=iu.out;omega) ji.out.2.2.2.2.2 ?_)
      intro v4 w4 iC hb4 _ _;have g2:bZ w B s A (p++P) u6 v4 w4:=by
       obtain ⟨a1,a2,a3,a4,a5,a6⟩:=ji.out;exact ⟨aY a1 a2 hb4,a2,iC,a4.trans (hb4.mono (Nat.le_trans gA.out a5)),a5,Nat.le_trans a6 hb4.size⟩
      obtain ⟨Q,hQ⟩:=ab (p++P);rw [<-hQ] at g2 iZ;have HQL:=aa (show Q.length<=2000000 from by rw [hQ,List.length_append];have:=iu.out;omega);have iV:=aa g2;clear g2 iC hb4 ji HX hQ
      cases go with
      |true =>
       have iO:=aa (show (A,Q)=aB Ls (i+1) from by rw [iZ.out,if_pos rfl]);go_wp2
       go_roundw
       case rel=>exact ⟨i+1,s,A,Q,by omega,by go_num,iO,iV⟩
       case measure=>simp [intOf] <;> omega
      |false =>
       have iO:=aa (show (A++[Q],[])=aB Ls (i+1) from by rw [iZ.out,if_neg (by decide)]);obtain ⟨a1,a2,a3,a4,a5,a6⟩:=iV.out;have hao:=a1.lt;have jV:=a3.held (fun b hb _=>hb);obtain ⟨vo,vc,ev1⟩:=jV.len;have HX:=aa (aI (E:=cellsE) (w:=w4) (ty:=22) (Y:=fun b=>s<=b) (Z:=fun b=>True/\u6.ownBlock≠some b) [v4] Q ⟨v4,rfl,jV⟩ (fun b _ hz=>⟨trivial,fun e=>by have:=a2 b e;omega⟩) ⟨trivial,fun e=>by have:=(hao _ e).2;omega⟩);have fK:Below w4.heap.size w4 (w4.alloc (.cells [v4].toArray 22)):=af _ _;have HA5:=aa ((a1.below fK).keep (Y:=fun _=>True) (.refl _ _) (fun _ _ _=>trivial));have gB:=aa (a4.trans (fK.mono a4.size));have gY:=aa (Nat.le_trans a5 (Nat.le_trans a6 fK.size));subst ev1;clear a1 a2 a3 a4 a5 a6 hao jV fK iV
       go_wp2_with (at_builtin;refine an (E:=cellsE) (Z:=fun _=>True) rfl (.tmp 62) (.tmp 64) 36 rfl (.slice none 0 0) 24 Tryd.underlying36 eU rfl (by decide) rfl rfl HA5.out HX.out (by have:=iu.out;simp;omega) (by have:=iu.out;simp;omega) gY.out ?_)
       intro v6 w6 gb gH _ _;have jE:=aa (show bZ w B w6.heap.size (A++[Q]) [] v6 (.slice none 0 0) w6 from ⟨gb.keep (Y:=fun b=>0<=b/\b<w6.heap.size) (.refl _ _) (fun b hb _=>⟨Nat.zero_le _,hb⟩),fun b e=>(gb.lt b e).2,OwnE.nil _ _ _ _ _,gB.out.trans (gH.mono gA.out),Nat.le_trans gY.out gH.size,Nat.le_refl _⟩);clear gb gH;go_wp2
       go_roundw
       case rel=>exact ⟨i+1,w6.heap.size,A++[Q],[],by omega,by go_num,iO,jE⟩
       case measure=>simp [intOf] <;> omega
    ·obtain rfl:i=k:=by omega
     have d2:¬ (i:Int)<(i:Int):=by omega
     have HE:=aa (show bC Ls=A from by unfold bC;rw [<-HN.out,<-HK.out]);have HF:=aa (show OwnE cellsE (fun _=>True) wp w.heap.size 22 u6 (bC Ls)/\Below w.heap.size w wp from by
      obtain ⟨a1,a2,a3,a4,a5,a6⟩:=HST.out;rw [HE.out];exact ⟨(a1.keep (Y:=fun _=>True) (.refl _ _) (fun _ _ _=>trivial)).base gA.out,a4⟩)
     clear hik HST;go_wp2;exact bodyPost_ret (v:=.tuple #[u6,.nilIface]) (by simp [results,Tryd.results14,go_sem]) rfl ⟨u6,rfl,HF.out.1,HF.out.2⟩
end Go.Proofs.YtechjomepdahiaaDoor
