import Derived.Test.YthdphijabffpiaaDoorZ0
import Derived.Test.YthdphijabffpiaaDoorMg6
import Derived.Test.YthdphijabffpiaaDoorItmC
import Derived.Test.YthdphijabffpiaaDoorMg1
import Derived.Deep.Cut
set_option maxRecDepth 100000
set_option linter.unusedVariables false
set_option linter.unusedSimpArgs false
set_option maxHeartbeats 3000000
namespace Go.Proofs.YthdphijabffpiaaDoor
open Go.RowKit Go.ChangeShapes Go.WideShapes
theorem cx(L:List Cl):∀ k,aN L k<k->(L.getD (aN L k) zc).1=0
 |0=>fun h=>absurd h (Nat.not_lt_zero _)
 |k+1=>fun h=>by
  have hle:=cu L k;have ih:=cx L k;unfold aN at h ⊢
  by_cases h0:(L.getD k zc).1=0
  ·rw [if_pos h0] at h ⊢
   rcases Nat.lt_or_ge (aN L k) k with h1 | h1
   ·exact ih h1
   ·rw [show aN L k=k by omega];exact h0
  ·rw [if_neg h0] at h;omega
theorem dO(L:List Cl)(g:Bool):aQ L g<=L.length/\(aQ L g<L.length->(L.getD (aQ L g) zc).1=0):=by
 unfold aQ
 cases g with
 |true =>
  rw [if_pos rfl]
  by_cases h0:(L.getD (L.length - 1) zc).1=0
  ·rw [if_pos h0];exact ⟨Nat.sub_le _ _,fun _=>h0⟩
  ·rw [if_neg h0];exact ⟨Nat.le_refl _,fun h=>absurd h (Nat.lt_irrefl _)⟩
 |false =>
  rw [if_neg (by decide)];exact ⟨cu L _,fun h=>cx L _ h⟩
theorem cL{L:List Cl}(g:Bool)(h:am L=true):am (L.take (aQ L g))=true:=by
 obtain ⟨h1,h2⟩:=dO L g;obtain ⟨m,hm⟩:=ab (aQ L g);rw [<-hm] at h1 h2 ⊢;rw [ew] at h ⊢;intro i hi;rw [List.length_take] at hi;obtain ⟨a,b,c⟩:=h i (by omega);rw [ct,if_pos (by omega)];refine ⟨a,fun e=>?_,fun e=>?_⟩
 ·have:=b e;rw [ct]
  split
  ·exact this
  ·rename_i hn
   exfalso;have e1:i+1=m:=by omega
   rw [e1] at this
   rcases Nat.lt_or_ge m L.length with h3 | h3
   ·have:=h2 h3;omega
   ·have hz:L.getD m zc=zc:=by simp [List.getD,List.getElem?_eq_none h3]
    rw [hz] at this;exact absurd this (by decide)
 ·have:=c e;refine ⟨this.1,?_⟩;rw [ct,if_pos (by omega)];exact this.2
def dP(Ls:List Ln)(i:Nat):Bool:=(Ls.getD i zl).2 && decide (i+1<Ls.length)
def bd(Ls:List Ln)(i:Nat):List Cl:=ar ((Ls.getD i zl).1.take (aQ (Ls.getD i zl).1 (dP Ls i)))
def aC(Ls:List Ln):Nat->List (List Cl) × List Cl
 | 0=>([],[])
 | k+1=>if dP Ls k=true then ((aC Ls k).1,(aC Ls k).2++bd Ls k) else ((aC Ls k).1++[(aC Ls k).2++bd Ls k],[])
def cy(Ls:List Ln):List (List Cl):=(aC Ls Ls.length).1
theorem cM(Ls:List Ln)(i:Nat):(bd Ls i).length<=(Ls.getD i zl).1.length:=by
 unfold bd;refine Nat.le_trans (dw _) ?_;rw [List.length_take];omega
theorem cN(Ls:List Ln):∀ k,(aC Ls k).1.length<=k/\(aC Ls k).2.length<=bs Ls k
 |0=>⟨Nat.le_refl _,Nat.zero_le _⟩
 |k+1=>by
  have ih:=cN Ls k;have hp:=cM Ls k;unfold aC bs
  split
  ·exact ⟨by show (aC Ls k).1.length<=k+1;omega,by rw [List.length_append];omega⟩
  ·exact ⟨by rw [List.length_append];show _+1<=k+1;omega,Nat.zero_le _⟩
theorem fz(Ls:List Ln)(i:Nat)(h:i<Ls.length):(Ls.getD i zl).1.length<=bs Ls Ls.length:=by
 have h1:=dc Ls (show i+1<=Ls.length from h);have h2:bs Ls (i+1)=bs Ls i+(Ls.getD i zl).1.length:=rfl;omega
theorem fA:(Tryd.prog.info? 53).map (fun i=>(i.zero,i.size,i.bytes))=some (some (.slice none 0 0),cellsE.size,24):=by kernel_rfl
def ce(w:World)(B s:Nat)(A:List (List Cl))(p:List Cl)(all long:Value)(wx:World):Prop :=
 OwnE cellsE (fun b=>0<=b/\b<s) wx B 53 all A/\(∀ b,all.ownBlock=some b->b<s)/\OwnE cellE (fun b=>s<=b) wx s 59 long p/\Below w.heap.size w wx/\B<=s/\s<=wx.heap.size
theorem f4(v:Value)(Ls:List Ln)(w:World)(hv:HeldE lineE (fun b=>b<w.heap.size) w v Ls)(hl:Ls.length<=1000000)(ht:bs Ls Ls.length<=1000000)(hs:∀ k,k<Ls.length->am (Ls.getD k zl).1=true):Calls Tryd.prog 22 #[v] w (fun e w'=>∃ u,e=.returned (.tuple #[u,.nilIface])/\OwnE cellsE (fun _=>True) w' w.heap.size 53 u (cy Ls)/\Below w.heap.size w w'):=by
 obtain ⟨ao,cap,rfl⟩:=hv.len;obtain ⟨gT,gS,jt⟩:=bA hv;clear gT;have iG:=aa jt;have i8:=aa hs;have HT:=aa ht;obtain ⟨n,hn⟩:=ab (Ls.length);have HN:=aa hn;rw [<-hn] at hl gS ⊢;clear jt hn hs ht hv
 go_enter Tryd.func22,Tryd.ntmps22
 go_wp2
 go_loopw [15] (fun i wr=>∃ k:Nat,k<=n/\i=.int .i64 k/\Below w.heap.size w wr) (fun i _=>n - (intOf i).toNat)
 case atStart=>exact ⟨0,Nat.zero_le _,rfl,Below.refl _ _⟩
 case round =>
  obtain ⟨k,hk,rfl,hb⟩:=hrel;obtain ⟨wo,jd⟩:=ab (wr);subst jd;have io:=aa hb;clear hb
  by_cases iw:k<n
  ·have d1:(k:Int)<(n:Int):=by omega
   have jL:k<Ls.length:=by rw [<-HN.out];exact iw
   obtain ⟨b,off,tv,e0,hb,_,c0,c1,hh⟩:=iG.out k jL;subst e0;have gU:=i8.out k jL;obtain ⟨⟨C,g⟩,iW⟩ : ∃ y,y=Ls.getD k zl:=⟨_,rfl⟩;rw [<-iW] at c1 hh gU;simp only at c1 hh gU;obtain ⟨tx,tc,etv⟩:=hh.len;subst etv;have c0:=(io.out.cell (p:=⟨b,off+k * 2,none⟩) hb).trans c0;have c1:=(io.out.cell (p:=⟨b,off+k * 2+1,none⟩) hb).trans c1;obtain ⟨W1,hW1⟩:=ab (wo.alloc (.cells [Value.slice tx C.length tc,.bool g].toArray 30));have hb1:Below wo.heap.size wo W1:=by rw [hW1];exact af _ _
   have gY:Has W1 wo.heap.size [.slice tx C.length tc,.bool g] 30:=by rw [hW1];exact Has.new wo _ _
   have jE:=aa (show wo.alloc (.cells #[Value.slice tx C.length tc,.bool g] 30)=W1 from by rw [hW1]);obtain ⟨gp,ib⟩:=ab (wo.heap.size);have j0:=aa ib;rw [<-ib] at gY;have gG:=aa (io.out.trans (hb1.mono io.out.size));have il:=aa (dq _ (.slice tx C.length tc) C W1 (hh.below gG.out));rw [gU] at il;have z0:=gY.cell 0 _ rfl;have ji:k<cap:=by omega
   clear iW hb hh gU hW1 hb1 gY ib jL
   go_upto_region 4 with (fail)
   rw [jE.out,<-j0.out];clear c0 c1
   go_wp2_with fail
   refine (il.out).mono ?_;rintro e w2 ⟨rfl,b2⟩;have HF:=aa (gG.out.trans (b2.mono gG.out.size));clear b2 z0;go_wp2
   go_roundw
   case rel=>exact ⟨k+1,by omega,by go_num,HF.out⟩
   case measure=>simp [intOf] <;> omega
  ·obtain rfl:k=n:=by omega
   have d1:¬ (k:Int)<(k:Int):=by omega
   obtain ⟨B,hB⟩:=ab (wo.heap.size);have iO:=aa (show w.heap.size<=B from by rw [hB];exact io.out.size);have kk:=aa (show ce w B B [] [] (.slice none 0 0) (.slice none 0 0) wo from ⟨OwnE.nil _ _ _ _ _,(fun b e=>by cases e),OwnE.nil _ _ _ _ _,io.out,Nat.le_refl _,by omega⟩);clear iw hk hB;go_wp2
   go_loopw [6,7,30] (fun av pv iv wr=>∃ (i s:Nat) (A:List (List Cl)) (p:List Cl),i<=k/\iv=.int .i64 i/\Hid ((A,p)=aC Ls i)/\Hid (ce w B s A p av pv wr)) (fun _ _ iv _=>k - (intOf iv).toNat)
   case atStart=>exact ⟨0,B,[],[],Nat.zero_le _,rfl,aa rfl,kk⟩
   case round =>
    clear kk;obtain ⟨i,s,A,p,hi,rfl,HK,HST⟩:=hrel;obtain ⟨wp,jF⟩:=ab (wr);subst jF;have iN:=aa (cN Ls i);rw [<-HK.out] at iN;simp only at iN
    by_cases hik:i<k
    ·have d2:(i:Int)<(k:Int):=by omega
     have j9:i<Ls.length:=by rw [<-HN.out];exact hik
     obtain ⟨b,off,tv,e0,hb,_,c0,c1,hh⟩:=iG.out i j9;subst e0;have gU:=i8.out i j9;have ic:=fz Ls i j9;obtain ⟨⟨C,g⟩,iW⟩ : ∃ y,y=Ls.getD i zl:=⟨_,rfl⟩;rw [<-iW] at c1 hh gU ic;simp only at c1 hh gU ic;obtain ⟨go,hgo⟩:=ab (dP Ls i);have jX:=aa (show go=(g && decide (i+1<k)) from by rw [hgo];unfold dP;rw [<-iW,HN.out]);have HPA:=aa (show bd Ls i=ar (C.take (aQ C go)) from by unfold bd;rw [<-iW,<-hgo]);obtain ⟨tx,tc,etv⟩:=hh.len;subst etv;have gF:=HST.out.2.2.2.1;have c0:=(gF.cell (p:=⟨b,off+i * 2,none⟩) hb).trans c0;have c1:=(gF.cell (p:=⟨b,off+i * 2+1,none⟩) hb).trans c1;obtain ⟨W1,hW1⟩:=ab (wp.alloc (.cells [Value.slice tx C.length tc,.bool g].toArray 30));have hb1:Below wp.heap.size wp W1:=by rw [hW1];exact af _ _
     have gY:Has W1 wp.heap.size [.slice tx C.length tc,.bool g] 30:=by rw [hW1];exact Has.new wp _ _
     have jE:=aa (show wp.alloc (.cells #[Value.slice tx C.length tc,.bool g] 30)=W1 from by rw [hW1]);obtain ⟨gp,ib⟩:=ab (wp.heap.size);have j0:=aa ib;rw [<-ib] at gY;have ki:=gF.trans (hb1.mono gF.size);have jh:=aa (show ce w B s A p u6 u7 W1 from by
      obtain ⟨a1,a2,a3,a4,a5,a6⟩:=HST.out;exact ⟨a1.below hb1,a2,a3.below hb1,a4.trans (hb1.mono a4.size),a5,Nat.le_trans a6 hb1.size⟩)
     have kg:=aa (dQ _ tx C.length tc C go W1 (hh.below ki));have HCH:=aa (cI (hh.below ki) (aQ C go) (dO C go).1);have kh:=aa (cL go gU);have ig:=aa (show (C.take (aQ C go)).length<=1000000 from by rw [List.length_take];have:=HT.out;omega);have HIO:=aa (gw _ _ _ W1 HCH.out ig.out kh.out);rw [<-HPA.out] at HIO;have z0:=gY.cell 0 _ rfl;have z1:=gY.cell 1 _ rfl;have lH:i<cap:=by omega
     have hwi:IntKind.i64.wrap ((i:Int)+1)=((i+1:Nat):Int):=by rw [IntKind.wrap_i64];omega
     have j7:=aa (show (bd Ls i).length<=1000000/\p.length<=1000000/\A.length<=1000000 from by
      have h1:=cM Ls i;have h2:=fz Ls i j9;have h3:=HT.out;have h4:=iN.out;have h5:=dc Ls (Nat.le_of_lt j9);omega)
     have jx:=aa (show aC Ls (i+1)=if go=true then (A,p++bd Ls i) else (A++[p++bd Ls i],[]) from by
      show (if dP Ls i=true then ((aC Ls i).1,(aC Ls i).2++bd Ls i) else ((aC Ls i).1++[(aC Ls i).2++bd Ls i],[]))=_;rw [<-HK.out,<-hgo])
     clear iW hb hh gU hW1 hb1 gY ib j9 ic hgo gF ki HST
     go_upto_region 12 with (fail)
     rw [jE.out,<-j0.out];clear c0 c1
     go_cut [10] from 35 to 43 (fun gv wx=>gv=.bool go/\wx=W1)
     case first =>
      have hg:=jX.out
      cases g with
      |false =>
       rw [Bool.false_and] at hg;subst hg;clear jX;go_wp2;go_meet
       case rel=>exact ⟨rfl,rfl⟩
      |true =>
       rw [Bool.true_and] at hg
       by_cases hlast:i+1<k
       ·have d3:decide ((i:Int)+1<(k:Int))=true:=ag (by omega);have d4:(i:Int)+1<(k:Int):=by omega
        rw [decide_eq_true hlast] at hg;subst hg;clear jX hlast;go_wp2;go_meet
        case rel=>exact ⟨by first | rfl | (congr 1;simp;omega),rfl⟩
       ·have d3:decide ((i:Int)+1<(k:Int))=false:=ah (by omega);have d4:¬ (i:Int)+1<(k:Int):=by omega
        rw [decide_eq_false hlast] at hg;subst hg;clear jX hlast;go_wp2;go_meet
        case rel=>exact ⟨by first | rfl | (congr 1;simp;omega),rfl⟩
     case rest =>
      obtain ⟨rfl,lP⟩:=hcut;obtain ⟨wq,lJ⟩:=ab (wc);subst lJ;subst lP;clear z1 jX hwi
      go_upto_region 13 with (fail)
      go_wp2_with fail
      refine (kg.out).mono ?_;rintro e w2 ⟨rfl,rfl⟩;clear z0
      go_wp2_with fail
      refine (HIO.out).mono ?_;rintro e w3 ⟨iv,rfl,hio,b3⟩;have hst3:ce w B s A p u6 u7 w3:=by
       obtain ⟨a1,a2,a3,a4,a5,a6⟩:=jh.out;exact ⟨a1.below b3,a2,a3.below b3,a4.trans (b3.mono a4.size),a5,Nat.le_trans a6 b3.size⟩
      have k7:=aa hst3;have hX:=(hio.held (fun b hb _=>hb)).zone (Y:=fun b=>s<=b/\u7.ownBlock≠some b) (fun b _ hz=>⟨Nat.le_trans jh.out.2.2.2.2.2 hz,fun e=>by have:=(jh.out.2.2.1.lt b e).2;omega⟩);have HX:=aa hX;obtain ⟨P,hP⟩:=ab (bd Ls i);rw [<-hP] at HX j7 jx;clear hst3 hX hio b3 jh hP
      go_upto_region 16 with (fail)
      go_wp2_with (at_builtin;refine ai (E:=cellE) (Z:=fun b=>s<=b) rfl (.tmp 57) (.tmp 58) 53 rfl (.agg #[.int .i64 0,.slice none 0 0]) 32 Tryd.underlying53 bI rfl (by decide) rfl rfl k7.out.2.2.1 HX.out (by have:=j7.out;omega) (by have:=j7.out;omega) k7.out.2.2.2.2.2 ?_)
      intro v4 w4 jk hb4 _ _;have jz:ce w B s A (p++P) u6 v4 w4:=by
       obtain ⟨a1,a2,a3,a4,a5,a6⟩:=k7.out;exact ⟨aW a1 a2 hb4,a2,jk,a4.trans (hb4.mono (Nat.le_trans iO.out a5)),a5,Nat.le_trans a6 hb4.size⟩
      obtain ⟨Q,hQ⟩:=ab (p++P);rw [<-hQ] at jz jx;have kL:=aa (show Q.length<=2000000 from by rw [hQ,List.length_append];have:=j7.out;omega);have kA:=aa jz;clear jz jk hb4 k7 HX hQ
      cases go with
      |true =>
       have je:=aa (show (A,Q)=aC Ls (i+1) from by rw [jx.out,if_pos rfl]);go_wp2
       go_roundw
       case rel=>exact ⟨i+1,s,A,Q,by omega,by go_num,je,kA⟩
       case measure=>simp [intOf] <;> omega
      |false =>
       have je:=aa (show (A++[Q],[])=aC Ls (i+1) from by rw [jx.out,if_neg (by decide)]);obtain ⟨a1,a2,a3,a4,a5,a6⟩:=kA.out;have hao:=a1.lt;have lO:=a3.held (fun b hb _=>hb);obtain ⟨vo,vc,ev1⟩:=lO.len;have HX:=aa (aB (E:=cellsE) (w:=w4) (ty:=53) (Y:=fun b=>s<=b) (Z:=fun b=>True/\u6.ownBlock≠some b) [v4] Q ⟨v4,rfl,lO⟩ (fun b _ hz=>⟨trivial,fun e=>by have:=a2 b e;omega⟩) ⟨trivial,fun e=>by have:=(hao _ e).2;omega⟩);have gL:Below w4.heap.size w4 (w4.alloc (.cells [v4].toArray 53)):=af _ _;have lY:=aa ((a1.below gL).keep (Y:=fun _=>True) (.refl _ _) (fun _ _ _=>trivial));have hU:=aa (a4.trans (gL.mono a4.size));have j2:=aa (Nat.le_trans a5 (Nat.le_trans a6 gL.size));subst ev1;clear a1 a2 a3 a4 a5 a6 hao lO gL kA
       go_wp2_with (at_builtin;refine ai (E:=cellsE) (Z:=fun _=>True) rfl (.tmp 62) (.tmp 64) 43 rfl (.slice none 0 0) 24 Tryd.underlying43 fA rfl (by decide) rfl rfl lY.out HX.out (by have:=j7.out;simp;omega) (by have:=j7.out;simp;omega) j2.out ?_)
       intro v6 w6 ie iq _ _;have lL:=aa (show ce w B w6.heap.size (A++[Q]) [] v6 (.slice none 0 0) w6 from ⟨ie.keep (Y:=fun b=>0<=b/\b<w6.heap.size) (.refl _ _) (fun b hb _=>⟨Nat.zero_le _,hb⟩),fun b e=>(ie.lt b e).2,OwnE.nil _ _ _ _ _,hU.out.trans (iq.mono iO.out),Nat.le_trans j2.out iq.size,Nat.le_refl _⟩);clear ie iq;go_wp2
       go_roundw
       case rel=>exact ⟨i+1,w6.heap.size,A++[Q],[],by omega,by go_num,je,lL⟩
       case measure=>simp [intOf] <;> omega
    ·obtain rfl:i=k:=by omega
     have d2:¬ (i:Int)<(i:Int):=by omega
     have HE:=aa (show cy Ls=A from by unfold cy;rw [<-HN.out,<-HK.out]);have HF:=aa (show OwnE cellsE (fun _=>True) wp w.heap.size 53 u6 (cy Ls)/\Below w.heap.size w wp from by
      obtain ⟨a1,a2,a3,a4,a5,a6⟩:=HST.out;rw [HE.out];exact ⟨(a1.keep (Y:=fun _=>True) (.refl _ _) (fun _ _ _=>trivial)).base iO.out,a4⟩)
     clear hik HST;go_wp2;exact bodyPost_ret (v:=.tuple #[u6,.nilIface]) (by simp [results,Tryd.results22,go_sem]) rfl ⟨u6,rfl,HF.out.1,HF.out.2⟩
end Go.Proofs.YthdphijabffpiaaDoor
