import Derived.Test.YthdphijabffpiaaDoorZ0
import Derived.Test.YthdphijabffpiaaDoorMg6
import Derived.Test.YthdphijabffpiaaDoorItmC
import Derived.Test.YthdphijabffpiaaDoorMg1
import Derived.Deep.Cut
set_option maxRecDepth 100000
set_option linter.unusedVariables false
set_option linter.unusedSimpArgs false
set_option maxHeartbeats 3000000
namespace Go.Proofs.YthdphijabffpiaaDoor
open Go.RowKit Go.ChangeShapes Go.WideShapes
theorem cU(L:List Cl):∀ k,aI L k<k->(L.getD (aI L k) zc).1=0
 |0=>fun h=>absurd h (Nat.not_lt_zero _)
 |k+1=>fun h=>by
  have hle:=cR L k;have ih:=cU L k;unfold aI at h ⊢
  by_cases h0:(L.getD k zc).1=0
  ·rw [if_pos h0] at h ⊢
   rcases Nat.lt_or_ge (aI L k) k with h1 | h1
   ·exact ih h1
   ·rw [show aI L k=k by omega];exact h0
  ·rw [if_neg h0] at h;omega
theorem dc(L:List Cl)(g:Bool):aJ L g<=L.length/\(aJ L g<L.length->(L.getD (aJ L g) zc).1=0):=by
 unfold aJ
 cases g with
 |true =>
  rw [if_pos rfl]
  by_cases h0:(L.getD (L.length - 1) zc).1=0
  ·rw [if_pos h0];exact ⟨Nat.sub_le _ _,fun _=>h0⟩
  ·rw [if_neg h0];exact ⟨Nat.le_refl _,fun h=>absurd h (Nat.lt_irrefl _)⟩
 |false =>
  rw [if_neg (by decide)];exact ⟨cR L _,fun h=>cU L _ h⟩
theorem dd{L:List Cl}(g:Bool)(h:al L=true):al (L.take (aJ L g))=true:=by
 obtain ⟨h1,h2⟩:=dc L g;obtain ⟨m,hm⟩:=ab (aJ L g);rw [<-hm] at h1 h2 ⊢;rw [eX] at h ⊢;intro i hi;rw [List.length_take] at hi;obtain ⟨a,b,c⟩:=h i (by omega);rw [cQ,if_pos (by omega)];refine ⟨a,fun e=>?_,fun e=>?_⟩
 ·have:=b e;rw [cQ]
  split
  ·exact this
  ·rename_i hn
   exfalso;have e1:i+1=m:=by omega
   rw [e1] at this
   rcases Nat.lt_or_ge m L.length with h3 | h3
   ·have:=h2 h3;omega
   ·have hz:L.getD m zc=zc:=by simp [List.getD,List.getElem?_eq_none h3]
    rw [hz] at this;exact absurd this (by decide)
 ·have:=c e;refine ⟨this.1,?_⟩;rw [cQ,if_pos (by omega)];exact this.2
def bj(Ls:List Ln)(i:Nat):Bool:=(Ls.getD i zl).2 && decide (i+1<Ls.length)
def aQ(Ls:List Ln)(i:Nat):List Cl:=an ((Ls.getD i zl).1.take (aJ (Ls.getD i zl).1 (bj Ls i)))
def ay(Ls:List Ln):Nat->List (List Cl) × List Cl
 | 0=>([],[])
 | k+1=>if bj Ls k=true then ((ay Ls k).1,(ay Ls k).2++aQ Ls k) else ((ay Ls k).1++[(ay Ls k).2++aQ Ls k],[])
def aY(Ls:List Ln):List (List Cl):=(ay Ls Ls.length).1
theorem cp(Ls:List Ln)(i:Nat):(aQ Ls i).length<=(Ls.getD i zl).1.length:=by
 unfold aQ;refine Nat.le_trans (cP _) ?_;rw [List.length_take];omega
theorem br(Ls:List Ln):∀ k,(ay Ls k).1.length<=k/\(ay Ls k).2.length<=aC Ls k
 |0=>⟨Nat.le_refl _,Nat.zero_le _⟩
 |k+1=>by
  have ih:=br Ls k;have hp:=cp Ls k;unfold ay aC
  split
  ·exact ⟨by show (ay Ls k).1.length<=k+1;omega,by rw [List.length_append];omega⟩
  ·exact ⟨by rw [List.length_append];show _+1<=k+1;omega,Nat.zero_le _⟩
theorem dS(Ls:List Ln)(i:Nat)(h:i<Ls.length):(Ls.getD i zl).1.length<=aC Ls Ls.length:=by
 have h1:=bG Ls (show i+1<=Ls.length from h);have h2:aC Ls (i+1)=aC Ls i+(Ls.getD i zl).1.length:=rfl;omega
theorem fW:(Tryd.prog.info? 53).map (fun i=>(i.zero,i.size,i.bytes))=some (some (.slice none 0 0),cellsE.size,24):=by kernel_rfl
def cE(w:World)(B s:Nat)(A:List (List Cl))(p:List Cl)(all long:Value)(wx:World):Prop :=
 OwnE cellsE (fun b=>0<=b/\b<s) wx B 53 all A/\(∀ b,all.ownBlock=some b->b<s)/\OwnE cellE (fun b=>s<=b) wx s 59 long p/\Below w.heap.size w wx/\B<=s/\s<=wx.heap.size
theorem fp(v:Value)(Ls:List Ln)(w:World)(hv:HeldE lineE (fun b=>b<w.heap.size) w v Ls)(hl:Ls.length<=1000000)(ht:aC Ls Ls.length<=1000000)(hs:∀ k,k<Ls.length->al (Ls.getD k zl).1=true):Calls Tryd.prog 22 #[v] w (fun e w'=>∃ u,e=.returned (.tuple #[u,.nilIface])/\OwnE cellsE (fun _=>True) w' w.heap.size 53 u (aY Ls)/\Below w.heap.size w w'):=by
 obtain ⟨ao,cap,rfl⟩:=hv.len;obtain ⟨ij,il,kA⟩:=aL hv;clear ij;have j9:=aa kA;have lm:=aa hs;have HT:=aa ht;obtain ⟨n,hn⟩:=ab (Ls.length);have HN:=aa hn;rw [<-hn] at hl il ⊢;clear kA hn hs ht hv
 go_enter Tryd.func22,Tryd.ntmps22
 go_wp2
 go_loopw [15] (fun i wr=>∃ k:Nat,k<=n/\i=.int .i64 k/\Below w.heap.size w wr) (fun i _=>n - (intOf i).toNat)
 case atStart=>exact ⟨0,Nat.zero_le _,rfl,Below.refl _ _⟩
 case round =>
  obtain ⟨k,hk,rfl,hb⟩:=hrel;obtain ⟨wo,jS⟩:=ab (wr);subst jS;have jr:=aa hb;clear hb
  by_cases hkn:k<n
  ·have d1:(k:Int)<(n:Int):=by omega
   have nr:k<Ls.length:=by rw [<-HN.out];exact hkn
   obtain ⟨b,off,tv,e0,hb,_,c0,c1,hh⟩:=j9.out k nr;subst e0;have jq:=lm.out k nr;obtain ⟨⟨C,g⟩,jc⟩ : ∃ y,y=Ls.getD k zl:=⟨_,rfl⟩;rw [<-jc] at c1 hh jq;simp only at c1 hh jq;obtain ⟨tx,tc,etv⟩:=hh.len;subst etv;have c0:=(jr.out.cell (p:=⟨b,off+k * 2,none⟩) hb).trans c0;have c1:=(jr.out.cell (p:=⟨b,off+k * 2+1,none⟩) hb).trans c1;obtain ⟨W1,hW1⟩:=ab (wo.alloc (.cells [Value.slice tx C.length tc,.bool g].toArray 30));have hb1:Below wo.heap.size wo W1:=by rw [hW1];exact af _ _
   have iK:Has W1 wo.heap.size [.slice tx C.length tc,.bool g] 30:=by rw [hW1];exact Has.new wo _ _
   have jZ:=aa (show wo.alloc (.cells #[Value.slice tx C.length tc,.bool g] 30)=W1 from by rw [hW1]);obtain ⟨gp,iR⟩:=ab (wo.heap.size);have j7:=aa iR;rw [<-iR] at iK;have gZ:=aa (jr.out.trans (hb1.mono jr.out.size));have ku:=aa (cL _ (.slice tx C.length tc) C W1 (hh.below gZ.out));rw [jq] at ku;have z0:=iK.cell 0 _ rfl;have kc:k<cap:=by omega
   clear jc hb hh jq hW1 hb1 iK iR nr
   go_upto_region 4 with (fail)
   rw [jZ.out,<-j7.out];clear c0 c1
   go_wp2_with fail
   refine (ku.out).mono ?_;rintro e w2 ⟨rfl,b2⟩;have HF:=aa (gZ.out.trans (b2.mono gZ.out.size));clear b2 z0;go_wp2
   go_roundw
   case rel=>exact ⟨k+1,by omega,by go_num,HF.out⟩
   case measure=>simp [intOf] <;> omega
  ·obtain rfl:k=n:=by omega
   have d1:¬ (k:Int)<(k:Int):=by omega
   obtain ⟨B,hB⟩:=ab (wo.heap.size);have jK:=aa (show w.heap.size<=B from by rw [hB];exact jr.out.size);have kE:=aa (show cE w B B [] [] (.slice none 0 0) (.slice none 0 0) wo from ⟨OwnE.nil _ _ _ _ _,(fun b e=>by cases e),OwnE.nil _ _ _ _ _,jr.out,Nat.le_refl _,by omega⟩);clear hkn hk hB;go_wp2
   go_loopw [6,7,30] (fun av pv iv wr=>∃ (i s:Nat) (A:List (List Cl)) (p:List Cl),i<=k/\iv=.int .i64 i/\Hid ((A,p)=ay Ls i)/\Hid (cE w B s A p av pv wr)) (fun _ _ iv _=>k - (intOf iv).toNat)
   case atStart=>exact ⟨0,B,[],[],Nat.zero_le _,rfl,aa rfl,kE⟩
   case round =>
    clear kE;obtain ⟨i,s,A,p,hi,rfl,HK,HST⟩:=hrel;obtain ⟨wp,lH⟩:=ab (wr);subst lH;have jm:=aa (br Ls i);rw [<-HK.out] at jm;simp only at jm
    by_cases hik:i<k
    ·have d2:(i:Int)<(k:Int):=by omega
     have jB:i<Ls.length:=by rw [<-HN.out];exact hik
     obtain ⟨b,off,tv,e0,hb,_,c0,c1,hh⟩:=j9.out i jB;subst e0;have jq:=lm.out i jB;have iH:=dS Ls i jB;obtain ⟨⟨C,g⟩,jc⟩ : ∃ y,y=Ls.getD i zl:=⟨_,rfl⟩;rw [<-jc] at c1 hh jq iH;simp only at c1 hh jq iH;obtain ⟨go,hgo⟩:=ab (bj Ls i);have jv:=aa (show go=(g && decide (i+1<k)) from by rw [hgo];unfold bj;rw [<-jc,HN.out]);have mr:=aa (show aQ Ls i=an (C.take (aJ C go)) from by unfold aQ;rw [<-jc,<-hgo]);obtain ⟨tx,tc,etv⟩:=hh.len;subst etv;have g3:=HST.out.2.2.2.1;have c0:=(g3.cell (p:=⟨b,off+i * 2,none⟩) hb).trans c0;have c1:=(g3.cell (p:=⟨b,off+i * 2+1,none⟩) hb).trans c1;obtain ⟨W1,hW1⟩:=ab (wp.alloc (.cells [Value.slice tx C.length tc,.bool g].toArray 30));have hb1:Below wp.heap.size wp W1:=by rw [hW1];exact af _ _
     have iK:Has W1 wp.heap.size [.slice tx C.length tc,.bool g] 30:=by rw [hW1];exact Has.new wp _ _
     have jZ:=aa (show wp.alloc (.cells #[Value.slice tx C.length tc,.bool g] 30)=W1 from by rw [hW1]);obtain ⟨gp,iR⟩:=ab (wp.heap.size);have j7:=aa iR;rw [<-iR] at iK;have kn:=g3.trans (hb1.mono g3.size);have kf:=aa (show cE w B s A p u6 u7 W1 from by
      obtain ⟨a1,a2,a3,a4,a5,a6⟩:=HST.out;exact ⟨a1.below hb1,a2,a3.below hb1,a4.trans (hb1.mono a4.size),a5,Nat.le_trans a6 hb1.size⟩)
     have mw:=aa (eh _ tx C.length tc C go W1 (hh.below kn));have ny:=aa (bJ (hh.below kn) (aJ C go) (dc C go).1);have lh:=aa (dd go jq);have iS:=aa (show (C.take (aJ C go)).length<=1000000 from by rw [List.length_take];have:=HT.out;omega);have HIO:=aa (gO _ _ _ W1 ny.out iS.out lh.out);rw [<-mr.out] at HIO;have z0:=iK.cell 0 _ rfl;have z1:=iK.cell 1 _ rfl;have lK:i<cap:=by omega
     have hwi:IntKind.i64.wrap ((i:Int)+1)=((i+1:Nat):Int):=by rw [IntKind.wrap_i64];omega
     have jR:=aa (show (aQ Ls i).length<=1000000/\p.length<=1000000/\A.length<=1000000 from by
      have h1:=cp Ls i;have h2:=dS Ls i jB;have h3:=HT.out;have h4:=jm.out;have h5:=bG Ls (Nat.le_of_lt jB);omega)
     have kx:=aa (show ay Ls (i+1)=if go=true then (A,p++aQ Ls i) else (A++[p++aQ Ls i],[]) from by
      show (if bj Ls i=true then ((ay Ls i).1,(ay Ls i).2++aQ Ls i) else ((ay Ls i).1++[(ay Ls i).2++aQ Ls i],[]))=_;rw [<-HK.out,<-hgo])
     clear jc hb hh jq hW1 hb1 iK iR jB iH hgo g3 kn HST
     go_upto_region 12 with (fail)
     rw [jZ.out,<-j7.out];clear c0 c1
     go_cut [10] from 35 to 43 (fun gv wx=>gv=.bool go/\wx=W1)
     case first =>
      have hg:=jv.out
      cases g with
      |false =>
       rw [Bool.false_and] at hg;subst hg;clear jv;go_wp2;go_meet
       case rel=>exact ⟨rfl,rfl⟩
      |true =>
       rw [Bool.true_and] at hg
       by_cases hlast:i+1<k
       ·have d3:decide ((i:Int)+1<(k:Int))=true:=ag (by omega);have d4:(i:Int)+1<(k:Int):=by omega
        rw [decide_eq_true hlast] at hg;subst hg;clear jv hlast;go_wp2;go_meet
        case rel=>exact ⟨by first | rfl | (congr 1;simp;omega),rfl⟩
       ·have d3:decide ((i:Int)+1<(k:Int))=false:=ah (by omega);have d4:¬ (i:Int)+1<(k:Int):=by omega
        rw [decide_eq_false hlast] at hg;subst hg;clear jv hlast;go_wp2;go_meet
        case rel=>exact ⟨by first | rfl | (congr 1;simp;omega),rfl⟩
     case rest =>
      obtain ⟨rfl,mc⟩:=hcut;obtain ⟨wq,mh⟩:=ab (wc);subst mh;subst mc;clear z1 jv hwi
      go_upto_region 13 with (fail)
      go_wp2_with fail
      refine (mw.out).mono ?_;rintro e w2 ⟨rfl,rfl⟩;clear z0
      go_wp2_with fail
      refine (HIO.out).mono ?_;rintro e w3 ⟨iv,rfl,hio,b3⟩;have hst3:cE w B s A p u6 u7 w3:=by
       obtain ⟨a1,a2,a3,a4,a5,a6⟩:=kf.out;exact ⟨a1.below b3,a2,a3.below b3,a4.trans (b3.mono a4.size),a5,Nat.le_trans a6 b3.size⟩
      have mM:=aa hst3;have hX:=(hio.held (fun b hb _=>hb)).zone (Y:=fun b=>s<=b/\u7.ownBlock≠some b) (fun b _ hz=>⟨Nat.le_trans kf.out.2.2.2.2.2 hz,fun e=>by have:=(kf.out.2.2.1.lt b e).2;omega⟩);have HX:=aa hX;obtain ⟨P,hP⟩:=ab (aQ Ls i);rw [<-hP] at HX jR kx;clear hst3 hX hio b3 kf hP
      go_upto_region 16 with (fail)
      go_wp2_with (at_builtin;refine ai (E:=cellE) (Z:=fun b=>s<=b) rfl (.tmp 57) (.tmp 58) 53 rfl (.agg #[.int .i64 0,.slice none 0 0]) 32 Tryd.underlying53 aW rfl (by decide) rfl rfl mM.out.2.2.1 HX.out (by have:=jR.out;omega) (by have:=jR.out;omega) mM.out.2.2.2.2.2 ?_)
      intro v4 w4 jA hb4 _ _;have k5:cE w B s A (p++P) u6 v4 w4:=by
       obtain ⟨a1,a2,a3,a4,a5,a6⟩:=mM.out;exact ⟨bk a1 a2 hb4,a2,jA,a4.trans (hb4.mono (Nat.le_trans jK.out a5)),a5,Nat.le_trans a6 hb4.size⟩
      obtain ⟨Q,hQ⟩:=ab (p++P);rw [<-hQ] at k5 kx;have l6:=aa (show Q.length<=2000000 from by rw [hQ,List.length_append];have:=jR.out;omega);have lD:=aa k5;clear k5 jA hb4 mM HX hQ
      cases go with
      |true =>
       have ke:=aa (show (A,Q)=ay Ls (i+1) from by rw [kx.out,if_pos rfl]);go_wp2
       go_roundw
       case rel=>exact ⟨i+1,s,A,Q,by omega,by go_num,ke,lD⟩
       case measure=>simp [intOf] <;> omega
      |false =>
       have ke:=aa (show (A++[Q],[])=ay Ls (i+1) from by rw [kx.out,if_neg (by decide)]);obtain ⟨a1,a2,a3,a4,a5,a6⟩:=lD.out;have hao:=a1.lt;have nj:=a3.held (fun b hb _=>hb);obtain ⟨vo,vc,ev1⟩:=nj.len;have HX:=aa (ax (E:=cellsE) (w:=w4) (ty:=53) (Y:=fun b=>s<=b) (Z:=fun b=>True/\u6.ownBlock≠some b) [v4] Q ⟨v4,rfl,nj⟩ (fun b _ hz=>⟨trivial,fun e=>by have:=a2 b e;omega⟩) ⟨trivial,fun e=>by have:=(hao _ e).2;omega⟩);have hO:Below w4.heap.size w4 (w4.alloc (.cells [v4].toArray 53)):=af _ _;have mP:=aa ((a1.below hO).keep (Y:=fun _=>True) (.refl _ _) (fun _ _ _=>trivial));have iM:=aa (a4.trans (hO.mono a4.size));have jP:=aa (Nat.le_trans a5 (Nat.le_trans a6 hO.size));subst ev1;clear a1 a2 a3 a4 a5 a6 hao nj hO lD
       go_wp2_with (at_builtin;refine ai (E:=cellsE) (Z:=fun _=>True) rfl (.tmp 62) (.tmp 64) 43 rfl (.slice none 0 0) 24 Tryd.underlying43 fW rfl (by decide) rfl rfl mP.out HX.out (by have:=jR.out;simp;omega) (by have:=jR.out;simp;omega) jP.out ?_)
       intro v6 w6 iW je _ _;have lO:=aa (show cE w B w6.heap.size (A++[Q]) [] v6 (.slice none 0 0) w6 from ⟨iW.keep (Y:=fun b=>0<=b/\b<w6.heap.size) (.refl _ _) (fun b hb _=>⟨Nat.zero_le _,hb⟩),fun b e=>(iW.lt b e).2,OwnE.nil _ _ _ _ _,iM.out.trans (je.mono jK.out),Nat.le_trans jP.out je.size,Nat.le_refl _⟩);clear iW je;go_wp2
       go_roundw
       case rel=>exact ⟨i+1,w6.heap.size,A++[Q],[],by omega,by go_num,ke,lO⟩
       case measure=>simp [intOf] <;> omega
    ·obtain rfl:i=k:=by omega
     have d2:¬ (i:Int)<(i:Int):=by omega
     have HE:=aa (show aY Ls=A from by unfold aY;rw [<-HN.out,<-HK.out]);have HF:=aa (show OwnE cellsE (fun _=>True) wp w.heap.size 53 u6 (aY Ls)/\Below w.heap.size w wp from by
      obtain ⟨a1,a2,a3,a4,a5,a6⟩:=HST.out;rw [HE.out];exact ⟨(a1.keep (Y:=fun _=>True) (.refl _ _) (fun _ _ _=>trivial)).base jK.out,a4⟩)
     clear hik HST;go_wp2;exact bodyPost_ret (v:=.tuple #[u6,.nilIface]) (by simp [results,Tryd.results22,go_sem]) rfl ⟨u6,rfl,HF.out.1,HF.out.2⟩
end Go.Proofs.YthdphijabffpiaaDoor
