import Derived.Test.YthdphijabffpiaaDoorZ0
import Derived.Test.YthdphijabffpiaaDoorRflE
import Derived.Test.YthdphijabffpiaaDoorMg2
import Derived.Test.YthdphijabffpiaaDoorMg5
import Derived.Test.YthdphijabffpiaaDoorCellP
import Derived.Test.YthdphijabffpiaaDoorMg1
import Derived.Lib.MinMax
import Derived.Deep.Cut
import Derived.Test.YthdphijabffpiaaDoorGrdR
set_option maxRecDepth 100000
set_option linter.unusedVariables false
set_option linter.unusedSimpArgs false
set_option maxHeartbeats 3000000
namespace Go.Proofs.YthdphijabffpiaaDoor
open Go.RowKit Go.ChangeShapes Go.WideShapes
theorem eg(sa:Nat->Addr)(Z:aj)(v:Value)(Ls:List Ln)(w:World)(iH:F.Sents w sa)(hv:HeldE lineE Z w v Ls)(hl:Ls.length<=1000000)(n:Nat)(hn:n<Ls.length)(hr:∀ k,k<n->al (Ls.getD k zl).1=true)(hb:al (Ls.getD n zl).1=false):Calls Tryd.prog 22 #[v] w (fun e w'=>∃ u,e=.returned (.tuple #[.slice none 0 0,u])/\F.IsErr sa w' u [(n:Int)] 5/\(∃ g,u=.iface 90 (.pointer (some g)))/\Below w.heap.size w w'):=by
 have lE:=aa hr;have no:=aa hb;have ju:=aa iH;have hv:=hv.lower;obtain ⟨ao,cap,rfl⟩:=hv.len;obtain ⟨_,_,hc⟩:=aL hv;have HC:=aa hc;clear hc hv hr hb iH
 go_enter Tryd.func22,Tryd.ntmps22
 go_wp2
 go_loopw [15] (fun i wr=>∃ k:Nat,k<=n/\i=.int .i64 k/\Below w.heap.size w wr) (fun i _=>Ls.length - (intOf i).toNat)
 case atStart=>exact ⟨0,Nat.zero_le _,rfl,Below.refl _ _⟩
 case round =>
  obtain ⟨k,hk,rfl,g3⟩:=hrel;have gW:=aa g3;clear g3;have hlt:k<Ls.length:=by omega
  obtain ⟨b,off,tv,rfl,hb,_,c0,c1,hh⟩:=HC.out k hlt;have c0:=(gW.out.cell (p:=⟨b,off+k * 2,none⟩) hb).trans c0;have c1:=(gW.out.cell (p:=⟨b,off+k * 2+1,none⟩) hb).trans c1;obtain ⟨y,hy⟩:=ab (Ls.getD k zl);have HY:=aa hy;rw [<-hy] at c1 hh;obtain ⟨C,g⟩:=y;simp only at c1 hh;obtain ⟨ta,tc,rfl⟩:=hh.len;obtain ⟨W1,hW1⟩:=ab (wr.alloc (.cells [Value.slice ta C.length tc,.bool g].toArray 30));have hb1:Below wr.heap.size wr W1:=by rw [hW1];exact af _ _
  have iK:Has W1 wr.heap.size [.slice ta C.length tc,.bool g] 30:=by rw [hW1];exact Has.new wr _ _
  have jZ:=aa (show wr.alloc (.cells #[Value.slice ta C.length tc,.bool g] 30)=W1 from by rw [hW1]);obtain ⟨gp,iR⟩:=ab (wr.heap.size);have j7:=aa iR;rw [<-iR] at iK;have gZ:=aa (gW.out.trans (hb1.mono gW.out.size));have hq:=cL _ _ C W1 (hh.below gZ.out);have z0:=iK.cell 0 _ rfl;clear hy hh hb1 hb hW1 iK iR
  by_cases hkn:k<n
  ·have hs:al C=true:=by have:=lE.out k hkn;rw [<-HY.out] at this;exact this
   rw [hs] at hq;have HQ:=aa hq;clear hq hs
   go_upto_region 4 with (fail)
   rw [jZ.out,<-j7.out];clear c0 c1
   go_wp2_with fail
   refine (HQ.out).mono ?_;rintro e w2 ⟨rfl,b2⟩;have hG:=aa (gZ.out.trans (b2.mono gZ.out.size));clear b2 HQ z0;go_wp2
   go_roundw
   case rel=>exact ⟨k+1,by omega,by go_num,hG.out⟩
   case measure=>simp [intOf] <;> omega
  ·obtain rfl:k=n:=by omega
   have hs:al C=false:=by have:=no.out;rw [<-HY.out] at this;exact this
   rw [hs] at hq;have HQ:=aa hq;clear hq hs
   go_upto_region 4 with (fail)
   rw [jZ.out,<-j7.out];clear c0 c1
   go_wp2_with fail
   refine (HQ.out).mono ?_;rintro e w2 ⟨rfl,b2⟩;have hG:=aa (gZ.out.trans (b2.mono gZ.out.size));have c4:=(ju.out.below hG.out).cell 4 (by decide);simp only [F.glob] at c4;clear b2 HQ z0
   go_wp2_with fail
   refine (F.wrong_any w2 (k:Int) _ _).mono ?_;rintro e w3 ⟨rfl,rfl⟩;have iJ:=aa (hG.out.alloc hG.out.size (.cells #[.int .i64 k,.iface 163 (.pointer (some (sa 4)))] 94));have hH:=Has.new w2 [.int .i64 k,.iface 163 (.pointer (some (sa 4)))] 94;have HE:=aa (F.IsErr.fault _ 0 _ _ [] 5 (hH.cell 0 _ rfl) (hH.cell 1 _ rfl) (F.IsErr.sent (sa:=sa) 4 (by decide)));clear hH c4;go_wp2
   go_ret2
   exact ⟨_,rfl,HE.out,⟨_,rfl⟩,iJ.out⟩
theorem eL(sa:Nat->Addr)(Z:aj)(v:Value)(Ls:List Ln)(w:World)(w0:Int)(iH:F.Sents w sa)(hv:HeldE lineE Z w v Ls)(hl:Ls.length<=1000000)(n:Nat)(hn:n<Ls.length)(hr:∀ k,k<n->al (Ls.getD k zl).1=true)(hb:al (Ls.getD n zl).1=false):Calls Tryd.prog 23 #[v,.int .i64 w0] w (fun e w'=>∃ u,e=.returned (.tuple #[.slice none 0 0,u])/\F.IsErr sa w' u [(n:Int)] 5/\Below w.heap.size w w'):=by
 have HL:=aa (eg sa Z v Ls w iH hv hl n hn hr hb);clear hr hb iH hv
 go_enter Tryd.func23,Tryd.ntmps23
 go_upto_region 1 with (fail)
 go_wp2_with fail
 refine (HL.out).mono ?_;rintro e w2 ⟨u,rfl,he,⟨g,hg⟩,b2⟩;subst hg;have HF:=aa (And.intro he b2);clear he b2;go_wp2
 go_ret2
 exact ⟨_,rfl,HF.out.1,HF.out.2⟩
theorem fC{L:List Cl}(h:al L=true):∀ c ∈ an L,aO c=true:=(eH L.length L (Nat.le_refl _) h).1
theorem cS(Ls:List Ln)(hs:∀ k,k<Ls.length->al (Ls.getD k zl).1=true):∀ k,k<=Ls.length->(∀ X ∈ (ay Ls k).1,∀ c ∈ X,aO c=true)/\∀ c ∈ (ay Ls k).2,aO c=true
 |0=>fun _=>⟨fun X h=>absurd h List.not_mem_nil,fun c h=>absurd h List.not_mem_nil⟩
 |k+1=>fun hk=>by
  obtain ⟨h1,h2⟩:=cS Ls hs k (by omega);have hp:∀ c ∈ (ay Ls k).2++aQ Ls k,aO c=true:=by
   intro c hc
   rcases List.mem_append.1 hc with hc | hc
   ·exact h2 c hc
   ·exact fC (dd _ (hs k (by omega))) c hc
  unfold ay
  split
  ·exact ⟨h1,hp⟩
  ·refine ⟨fun X hX=>?_,fun c h=>absurd h List.not_mem_nil⟩
   rcases List.mem_append.1 hX with hX | hX
   ·exact h1 X hX
   ·rw [List.mem_singleton.1 hX];exact hp
theorem cD(Ls:List Ln):∀ k,(ay Ls k).1.flatten.length+(ay Ls k).2.length<=aC Ls k
 |0=>Nat.le_refl _
 |k+1=>by
  have ih:=cD Ls k;have hp:=cp Ls k;unfold ay aC
  split
  ·rw [List.length_append];show (ay Ls k).1.flatten.length+_<=_;omega
  ·rw [List.flatten_append,List.length_append];show (ay Ls k).1.flatten.length+(((ay Ls k).2++aQ Ls k)++[]).length+0<=_;rw [List.append_nil,List.length_append];omega
theorem dR(wd:Nat)(X:List Cl)(h:1<=wd):(aR wd X).length<=X.length+1:=by
 unfold aR;have:=(cq wd X h X.length).2;rw [List.length_append];show _+1<=_;omega
theorem db(wd:Nat)(h:1<=wd):∀ A:List (List Cl),(A.flatMap (aR wd)).length<=A.flatten.length+A.length
 |[]=>Nat.le_refl _
 |X :: A=>by
  have ih:=db wd h A;have h1:=dR wd X h;rw [List.flatMap_cons,List.length_append,List.flatten_cons,List.length_append,List.length_cons];omega
theorem cg{α:Type}:∀ (A:List (List α)) (i:Nat),(A.getD i []).length<=A.flatten.length
 | [],i=>Nat.zero_le _
 | X :: A,0=>by rw [List.flatten_cons,List.length_append];show X.length<=_;omega
 | X :: A,i+1=>by rw [List.flatten_cons,List.length_append];have:=cg A i;show (A.getD i []).length<=_;omega
theorem bC{α:Type}:∀ (A:List (List α)) (i:Nat),(A.take i).flatten.length<=A.flatten.length
 | [],i=>by simp
 | X :: A,0=>by simp
 | X :: A,i+1=>by rw [List.take_succ_cons,List.flatten_cons,List.flatten_cons,List.length_append,List.length_append];have:=bC A i;omega
def bK(wd:Nat)(Ls:List Ln):List Ln:=(aY Ls).flatMap (aR wd)
theorem aV{Z:aj}{w:World}{ao:Option Addr}{n cap:Nat}{L:List (List Cl)}(h:HeldE cellsE Z w (.slice ao n cap) L):n=L.length/\n<=cap/\∀ i,i<L.length->∃ b off u,ao=some ⟨b,off,none⟩/\b<w.heap.size/\w.cell? ⟨b,off+i,none⟩=some u/\HeldE cellE Z w u (L.getD i []):=by
 obtain ⟨h1,h2,h3⟩:=h.spots;refine ⟨h1,h2,fun i hi=>?_⟩;obtain ⟨b,off,rfl,hb,hz,C,hC,u,rfl,hr⟩:=h3 i hi;have hc:=hC 0 (by decide);rw [show off+i * cellsE.size+0=off+i from by show off+i * 1+0=_;omega] at hc;exact ⟨b,off,u,rfl,hb,hc,hr⟩
theorem dE(v:Value)(Ls:List Ln)(w0:Int)(w:World)(hv:HeldE lineE (fun b=>b<w.heap.size) w v Ls)(hl:Ls.length<=100000)(ht:aC Ls Ls.length<=100000)(hs:∀ k,k<Ls.length->al (Ls.getD k zl).1=true):Calls Tryd.prog 23 #[v,.int .i64 w0] w (fun e w'=>∃ u,e=.returned (.tuple #[u,.nilIface])/\OwnE lineE (fun b=>w.heap.size<=b) w' w.heap.size 30 u (bK (wdN w0) Ls)/\Below w.heap.size w w'):=by
 have HL:=aa (fp v Ls w hv (by omega) (by omega) hs);obtain ⟨A,hA⟩:=ab (aY Ls);have hAR:∀ X ∈ A,∀ c ∈ X,aO c=true:=by rw [hA];exact (cS Ls hs _ (Nat.le_refl _)).1
 have lU:A.flatten.length<=100000:=by rw [hA];have:=cD Ls Ls.length;unfold aY;omega
 have nl:A.length<=100000:=by rw [hA];have:=(br Ls Ls.length).1;unfold aY;omega
 have HAR:=aa hAR;have HAS:=aa lU;have iq:1<=wdN w0:=by unfold wdN;omega
 have m7:=aa iq;obtain ⟨wd,hwd⟩:=ab (wdN w0);have HW:=aa hwd;have HE:=aa (show bK (wdN w0) Ls=A.flatMap (aR wd) from by unfold bK;rw [hA,hwd]);rw [<-hA] at HL;rw [HE.out];clear hA hAR lU hs hv iq hwd HE
 go_enter Tryd.func23,Tryd.ntmps23
 go_upto_region 1 with (fail)
 go_wp2_with fail
 refine (HL.out).mono ?_;rintro e w1 ⟨av,rfl,hao,b1⟩;have kQ:=hao.held (fun _ _ _=>trivial);obtain ⟨ao,ac,eav⟩:=kQ.len;subst eav;obtain ⟨_,mX,hat⟩:=aV kQ;have j2:=aa hat;obtain ⟨m,hm⟩:=ab (A.length);have HM:=aa hm;rw [<-hm] at mX nl ⊢;have gZ:=aa b1;clear hao kQ hat hm b1;go_wp2
 go_loopw [8,23] (fun lv iv wr=>∃ i:Nat,i<=m/\iv=.int .i64 i/\OwnE lineE (fun b=>w.heap.size<=b) wr w1.heap.size 30 lv ((A.take i).flatMap (aR wd))/\Below w1.heap.size w1 wr) (fun _ iv _=>m - (intOf iv).toNat)
 case atStart=>exact ⟨0,Nat.zero_le _,rfl,OwnE.nil _ _ _ _ _,Below.refl _ _⟩
 case round =>
  obtain ⟨i,hi,rfl,ho,hb⟩:=hrel;obtain ⟨wo,jS⟩:=ab (wr);subst jS;have HO:=aa ho;have HB:=aa hb;clear ho hb
  by_cases him:i<m
  ·have d1:(i:Int)<(m:Int):=by omega
   obtain ⟨b,off,u,e0,hb,c0,hh⟩:=j2.out i (by rw [<-HM.out];exact him);subst e0;obtain ⟨X,hX⟩:=ab (A.getD i []);have hxl:X.length<=100000:=by rw [hX];exact Nat.le_trans (cg A i) HAS.out
   have hxr:∀ k,k<X.length->aO (X.getD k zc)=true:=by
    intro k hk;have hia:i<A.length:=by rw [<-HM.out];exact him
    have h1:X ∈ A:=by
     rw [hX,show A.getD i []=A[i] from by simp [List.getD,List.getElem?_eq_getElem hia]];exact List.getElem_mem _
    refine HAR.out X h1 _ ?_;rw [show X.getD k zc=X[k] from by simp [List.getD,List.getElem?_eq_getElem hk]];exact List.getElem_mem _
   rw [<-hX] at hh;have HX:=aa (show (A.take (i+1)).flatMap (aR wd)=(A.take i).flatMap (aR wd)++aR wd X from by
    have:i<A.length:=by rw [<-HM.out];exact him
    rw [List.take_succ_eq_append_getElem this,List.flatMap_append,hX,show A.getD i []=A[i] from by simp [List.getD,List.getElem?_eq_getElem this]]
    simp)
   have HN:=aa (show ((A.take i).flatMap (aR wd)).length<=200000/\(aR wd X).length<=200000 from by
    have lW:1<=wd:=by rw [HW.out];exact m7.out
    have h1:=db wd lW (A.take i);have h2:=bC A i;have h3:=HAS.out;have h4:=dR wd X lW;have h5:=HM.out;rw [List.length_take] at h1;omega)
   have c0:=(HB.out.cell (p:=⟨b,off+i,none⟩) hb).trans c0;have HK:=aa (fX u X w0 wo ((hh.below HB.out).lower) (by omega) hxr);rw [<-HW.out] at HK;have lK:i<ac:=by omega
   clear hX hh hxr hb
   go_wp2_with fail
   refine HK.out.mono ?_;rintro e w3 ⟨bv,rfl,kn,b3⟩;have hX:=(kn.held (fun b h _=>h)).zone (Y:=fun b=>w.heap.size<=b/\u8.ownBlock≠some b) (fun b _ hz=>⟨Nat.le_trans gZ.out.size (Nat.le_trans HB.out.size hz),fun e=>by have:=(HO.out.lt b e).2;omega⟩);have m0:=aa hX;have lS:=aa (HO.out.below b3);have iJ:=aa (HB.out.trans (b3.mono HB.out.size));have jP:=aa iJ.out.size;clear hX kn b3 c0 HK HO
   go_wp2_with (at_builtin;refine ai (E:=lineE) (Z:=fun b=>w.heap.size<=b) rfl (.tmp 36) (.tmp 37) 22 rfl (.agg #[.slice none 0 0,.bool false]) 32 Tryd.underlying22 cr rfl (by decide) rfl rfl lS.out m0.out (by have:=HN.out;omega) (by have:=HN.out;omega) jP.out ?_)
   intro v4 w4 jA hb4 hk4 _;have HF:=aa (And.intro (show OwnE lineE (fun b=>w.heap.size<=b) w4 w1.heap.size 30 v4 ((A.take (i+1)).flatMap (aR wd)) from by rw [HX.out];exact jA) (iJ.out.trans hb4));clear jA hb4 hk4;go_wp2
   go_roundw
   case rel=>exact ⟨i+1,by omega,by go_num,HF.out⟩
   case measure=>simp [intOf] <;> omega
  ·obtain rfl:i=m:=by omega
   have d1:¬ (i:Int)<(i:Int):=by omega
   have HF:=aa (And.intro (show OwnE lineE (fun b=>w.heap.size<=b) wo w.heap.size 30 u8 (A.flatMap (aR wd)) from by
    have h:=HO.out;rw [HM.out,List.take_length] at h;exact h.base gZ.out.size) (gZ.out.trans (HB.out.mono gZ.out.size)))
   clear HO HB;go_wp2;exact bodyPost_ret (v:=.tuple #[u8,.nilIface]) (by simp [results,Tryd.results23,go_sem]) rfl ⟨u8,rfl,HF.out.1,HF.out.2⟩
section
theorem bB{α:Type}{E:Elem α}{Z:aj}{w:World}{B:Nat}{ty:TypeId}{v:Value}{L:List α}(h:OwnE E Z w B ty v L)(hz:∀ b,v.ownBlock=some b->Z b):HeldE E Z w v L:=by
 obtain ⟨CS,h1,h2,h3⟩:=h;have ip:=a9 h2 h3
 rcases h1.2 with ⟨rfl,h0⟩ | ⟨g,cap,cur,rfl,hB,hg,hn,hmx,_⟩
 ·have:L=[]:=List.eq_nil_of_length_eq_zero h0;subst this;exact HeldE.nil _ _ _
 ·refine ⟨some ⟨g,0,none⟩,cap,rfl,hn,hmx,(fun e=>by cases e),fun i hi=>?_⟩;have kT:=(Array.getElem?_eq_some_iff.1 hg).1;refine ⟨g,0,rfl,kT,hz g rfl,CS.getD i [],fun j hj=>?_,E.keep (.refl _ _) (fun b _ h=>h.1) (h3 i hi)⟩;rw [Nat.zero_add,h1.cellAt (i * E.size+j) (by
   have:i * E.size+E.size<=L.length * E.size:=by rw [<-Nat.succ_mul];exact Nat.mul_le_mul_right _ hi
   omega)]
  exact bD ip i j (by omega) hj
abbrev rbv(gl wd:Nat):Value:=.slice (some ⟨gl,0,none⟩) wd wd
def RbC(w:World)(g cap:Nat)(vs:List (Value × Bool))(Ls:List Ln)(wx:World):Prop :=
 OwnE rlE (fun _=>False) wx w.heap.size 30 (.slice (some ⟨g,0,none⟩) vs.length cap) vs/\vs.length=Ls.length/\(∀ j,j<Ls.length->(vs.getD j zrl).2=(Ls.getD j zl).2/\HeldE cellE (fun b=>w.heap.size<=b/\b≠g) wx (vs.getD j zrl).1 (Ls.getD j zl).1)/\Below w.heap.size w wx
def RbSt(w:World)(g cap gl wd:Nat)(vs0:List (Value × Bool))(Ls:List Ln)(C:List Cl)(wx:World):Prop :=
 OwnE rlE (fun _=>False) wx w.heap.size 30 (.slice (some ⟨g,0,none⟩) (vs0.length+1) cap) (vs0++[(rbv gl wd,false)])/\vs0.length=Ls.length/\(∀ j,j<Ls.length->(vs0.getD j zrl).2=(Ls.getD j zl).2/\HeldE cellE (fun b=>w.heap.size<=b/\b≠g/\b≠gl) wx (vs0.getD j zrl).1 (Ls.getD j zl).1)/\OwnE cellE (fun b=>w.heap.size<=b/\b≠g) wx w.heap.size 74 (rbv gl wd) (C++List.replicate (wd - C.length) zc)/\gl≠g/\C.length<=wd/\Below w.heap.size w wx
section
variable {w wx wy wa w2 w3 : World} {g cap gl wd : Nat} {vs0 vs : List (Value × Bool)} {Ls : List Ln} {C : List Cl}
theorem RbSt.below(h:RbSt w g cap gl wd vs0 Ls C wx)(hb:Below wx.heap.size wx wy):RbSt w g cap gl wd vs0 Ls C wy:=by
 obtain ⟨a1,a2,a3,a4,a5,a6,a7⟩:=h;exact ⟨a1.below hb,a2,fun j hj=>⟨(a3 j hj).1,(a3 j hj).2.below hb⟩,a4.below hb,a5,a6,a7.trans (hb.mono a7.size)⟩
theorem RbSt.shut(h:RbSt w g cap gl wd vs0 Ls C wx){b:Bool}(ho:OwnE rlE (fun _=>False) wy w.heap.size 30 (.slice (some ⟨g,0,none⟩) (vs0.length+1) cap) (vs0++[(rbv gl wd,b)]))(hu:Upd (fun x=>x=g) wx wy):RbC w g cap (vs0++[(rbv gl wd,b)]) (Ls++[bH wd C b]) wy:=by
 obtain ⟨a1,a2,a3,a4,a5,a6,a7⟩:=h;have hg:=a1.lt g rfl;refine ⟨by rw [List.length_append];exact ho,by simp [a2],fun j hj=>?_,a7.trans (hu.below a7.size (fun x e=>by omega))⟩;rw [List.length_append,List.length_singleton] at hj;rw [aT,aT,a2]
 by_cases hl:j<Ls.length
 ·rw [if_pos hl,if_pos hl];exact ⟨(a3 j hl).1,(((a3 j hl).2.upd hu (fun b hz e=>hz.2.1 e))).zone (fun b _ hz=>⟨hz.1,hz.2.1⟩)⟩
 ·rw [if_neg hl,if_neg hl,show j - Ls.length=0 by omega];refine ⟨rfl,?_⟩;have h1:=a4.upd hu (fun x hz e=>by
   rcases hz with hz | hz
   ·exact hz.2 e
   ·have:gl=x:=Option.some.inj (show some gl=some x from hz);exact a5 (this.trans e))
  exact bB h1 (fun b e=>by
   have:gl=b:=Option.some.inj (show some gl=some b from e);subst this;exact ⟨(h1.lt gl rfl).1,a5⟩)
theorem RbC.open(h:RbC w g cap vs Ls wa){v':Value}(hb:Below wa.heap.size wa w2)(hn:OwnE cellE (fun _=>False) w2 wa.heap.size 74 (rbv wa.heap.size wd) (List.replicate wd zc))
  (ho:OwnE rlE (fun _=>False) w3 w.heap.size 30 v' (vs++[(rbv wa.heap.size wd,false)])) (hk:KeepZ (fun b=>(Value.slice (some ⟨g,0,none⟩) vs.length cap).ownBlock≠some b) w2 w3) (hd:∀ b,b<w2.heap.size->(Value.slice (some ⟨g,0,none⟩) vs.length cap).ownBlock≠some b->v'.ownBlock≠some b) (hb3:Below w.heap.size w2 w3) :
  ∃ g' cap',v'=.slice (some ⟨g',0,none⟩) (vs.length+1) cap'/\RbSt w g' cap' wa.heap.size wd vs Ls [] w3:=by
 obtain ⟨a1,a2,a3,a4⟩:=h;obtain ⟨g',cap',e⟩:=dQ ho (by simp);rw [List.length_append,List.length_singleton] at e;subst e;have kT:=(hn.lt wa.heap.size rfl).2;have kH:=a1.lt g rfl;have hne:∀ x:Nat,(Value.slice (some ⟨g,0,none⟩) vs.length cap).ownBlock≠some x↔x≠g:=fun x=>by
  show (some g≠some x)↔_;constructor
  ·intro h e;exact h (by rw [e])
  ·intro h e;exact h (by cases e;rfl)
 have lw:∀ b,b<w2.heap.size->b≠g->b≠g':=fun b hb1 hb2 e=>by
  subst e;exact hd b hb1 ((hne b).2 hb2) rfl
 refine ⟨g',cap',rfl,ho,a2,fun j hj=>⟨(a3 j hj).1,?_⟩,?_,lw _ kT (by omega),Nat.zero_le _,(a4.trans (hb.mono a4.size)).trans hb3⟩
 ·refine (((a3 j hj).2.zone (Y:=fun b=>w.heap.size<=b/\b≠g/\b<wa.heap.size) (fun b hb1 hz=>⟨hz.1,hz.2,hb1⟩)).below hb).keep (hk.mono (fun b _ hz=>(hne b).2 hz.2.1)) (fun b hb1 hz=>⟨hz.1,lw b hb1 hz.2.1,by omega⟩)
 ·have h1:OwnE cellE (fun _=>False) w3 wa.heap.size 74 (rbv wa.heap.size wd) (List.replicate wd zc):=hn.keep (hk.mono (fun b _ hz=>(hne b).2 (by
   rcases hz with hz | hz
   ·exact hz.elim
   ·have:wa.heap.size=b:=Option.some.inj (show some wa.heap.size=some b from hz);omega))) (fun _ _ hz=>hz)
  exact (h1.keep (.refl _ _) (fun _ _ hz=>hz.elim)).base a4.size
theorem RbC.held(h:RbC w g cap vs Ls wx):HeldE lineE (fun b=>w.heap.size<=b) wx (.slice (some ⟨g,0,none⟩) vs.length cap) Ls:=by
 obtain ⟨a1,a2,a3,a4⟩:=h;have h1:=bB (a1.keep (Y:=fun b=>b=g) (.refl _ _) (fun _ _ hz=>hz.elim)) (fun b e=>(Option.some.inj (show some g=some b from e)).symm);obtain ⟨ao,c2,e,hl,hm,hn,hc⟩:=id h1
 cases e
 refine ⟨_,cap,by rw [a2],by rw [<-a2];exact hl,hm,(fun e=>by cases e),fun i hi=>?_⟩;obtain ⟨b,off,e2,hb,hz,D,hD,hr⟩:=hc i (by rw [a2];exact hi)
 cases e2
 obtain ⟨b1,b2⟩:=a3 i hi;refine ⟨g,0,rfl,hb,(a1.lt g rfl).1,D,hD,line_rep.2 ⟨(vs.getD i zrl).1,?_,b2.zone (fun b _ hz=>hz.1)⟩⟩;have:=hr.1;rw [this];show [(vs.getD i zrl).1,Value.bool (vs.getD i zrl).2]=_;rw [b1]
 rfl
theorem gw(C:List Cl)(x:Cl)(wd:Nat)(h:C.length<wd):(C++List.replicate (wd - C.length) zc).set C.length x=(C++[x])++List.replicate (wd - (C++[x]).length) zc:=by
 rw [List.set_append_right _ _ (Nat.le_refl _),Nat.sub_self,List.length_append,List.length_singleton,show wd - C.length=(wd - (C.length+1))+1 by omega,List.replicate_succ,List.set_cons_zero,List.append_assoc]
 rfl
theorem RbSt.put(h:RbSt w g cap gl wd vs0 Ls C wx)(x:Cl)(hx:C.length<wd){Zi:Nat->aj}(ho:OwnI cellE Zi wy w.heap.size 74 (rbv gl wd) ((C++List.replicate (wd - C.length) zc).set C.length x))(hz:∀ i b,b<wy.heap.size->Zi i b->w.heap.size<=b/\b≠g)(hu:Upd (fun b=>b=gl) wx wy):RbSt w g cap gl wd vs0 Ls (C++[x]) wy:=by
 obtain ⟨a1,a2,a3,a4,a5,a6,a7⟩:=h;rw [gw C x wd hx] at ho;have kT:=a4.lt gl rfl;refine ⟨a1.upd hu (fun x hz e=>?_),a2,fun j hj=>⟨(a3 j hj).1,(a3 j hj).2.upd hu (fun b hz e=>hz.2.2 e)⟩,ho.all (fun i b _ hb h=>hz i b hb h),a5,by rw [List.length_append];exact hx,a7.trans (hu.below a7.size (fun b e=>by omega))⟩
 rcases hz with hz | hz
 ·exact hz
 ·have:g=x:=Option.some.inj (show some g=some x from hz);exact a5 (e.symm.trans this.symm)
end
end
section
def rvE:Elem Value where
 size:=1
 zero:=.slice none 0 0
 rep:=fun _ _ C x=>C=[x]/\x.oneCell'=true
 len:=by rintro _ _ _ _ ⟨rfl,_⟩;rfl
 one:=by
  rintro _ _ _ _ ⟨rfl,h⟩ u hu
  simp at hu
  subst hu;exact h
 keep:=fun _ _ h=>h
def rz:Value:=.slice none 0 0
theorem gC:(Tryd.prog.info? 53).map (fun i=>(i.zero,i.size,i.bytes))=some (some (.slice none 0 0),rvE.size,24):=by kernel_rfl
theorem fA{Z Y:aj}{w:World}{B:Nat}{ty:TypeId}{v:Value}{vs:List Value}(h:OwnE rvE Z w B ty v vs):OwnE rvE Y w B ty v vs:=by
 obtain ⟨CS,h1,h2,h3⟩:=h;exact ⟨CS,h1,h2,fun i hi=>h3 i hi⟩
theorem gS{Z:aj}{w:World}{B g n cap:Nat}{ty:TypeId}{vs:List Value}(h:OwnE rvE Z w B ty (.slice (some ⟨g,0,none⟩) n cap) vs){i:Nat}(hi:i<vs.length):w.cell? ⟨g,i,none⟩=some (vs.getD i rz)/\w.frozen? ⟨g,i,none⟩=false:=by
 obtain ⟨C,hC,hr,_⟩:=(OwnE.each h).at hi;subst hr;have h0:=hC 0 (by decide);rw [show i * rvE.size+0=i from by show i * 1+0=i;omega] at h0;exact h0
theorem gP{Z:aj}{w:World}{B g n cap i:Nat}{ty:TypeId}{vs:List Value}(h:OwnE rvE Z w B ty (.slice (some ⟨g,0,none⟩) n cap) vs)(hi:i<vs.length)(x:Value)(hx:x.oneCell'=true):OwnE rvE Z (w.setCell ⟨g,i,none⟩ x) B ty (.slice (some ⟨g,0,none⟩) n cap) (vs.set i x):=by
 obtain ⟨CS,h1,h2,h3⟩:=h;have ip:=a9 h2 h3;have hn:n=vs.length:=by
  rcases h1.2 with ⟨e,_⟩ | ⟨g',cap',cur,e,_⟩
  ·cases e
  ·simp only [Value.slice.injEq] at e;exact e.2.1
 subst hn;have hst:=(h1.stored i x).1;have kG:=di ip i 0 x (by omega) (by decide);rw [show rvE.size=1 from rfl,Nat.mul_one,Nat.add_zero] at kG;rw [kG] at hst;refine ⟨_,by rw [List.length_set];exact hst,by simp [h2],fun j hj=>?_⟩;rw [List.length_set] at hj;have lA:=h3 j hj
 by_cases e:j=i
 ·subst e;obtain ⟨hv,hh⟩:=lA;rw [show (CS.set j ((CS.getD j []).set 0 x)).getD j []=(CS.getD j []).set 0 x from by simp [List.getD,List.getElem?_set_self (show j<CS.length by omega)],hv,bX _ _ _ _ _ hj,if_pos rfl];exact ⟨rfl,hx⟩
 ·rw [show (CS.set i ((CS.getD i []).set 0 x)).getD j []=CS.getD j [] from by simp [List.getD,List.getElem?_set,Ne.symm e],bX _ _ _ _ _ hi,if_neg e];exact lA
def LgC(w:World)(ov:Value)(vs:List Value)(A:List (List Cl))(wx:World):Prop :=
 OwnE rvE (fun _=>False) wx w.heap.size 53 ov vs/\vs.length=A.length/\(∀ j,j<A.length->HeldE cellE (fun b=>ov.ownBlock≠some b) wx (vs.getD j rz) (A.getD j []))/\Below w.heap.size w wx
def LgSt(w:World)(g cap:Nat)(vs0:List Value)(lv:Value)(A:List (List Cl))(p:List Cl)(wx:World):Prop :=
 OwnE rvE (fun _=>False) wx w.heap.size 53 (.slice (some ⟨g,0,none⟩) (vs0.length+1) cap) (vs0++[lv])/\vs0.length=A.length/\(∀ j,j<A.length->HeldE cellE (fun b=>b≠g/\lv.ownBlock≠some b) wx (vs0.getD j rz) (A.getD j []))/\OwnE cellE (fun b=>b≠g) wx w.heap.size 59 lv p/\lv.ownBlock≠some g/\Below w.heap.size w wx
section
variable {w wx wy w2 w3 : World} {g cap : Nat} {vs0 vs : List Value} {lv ov : Value} {A : List (List Cl)} {p P : List Cl}
theorem ef(g n cap x:Nat):(Value.slice (some ⟨g,0,none⟩) n cap).ownBlock≠some x↔x≠g:=by
 show (some g≠some x)↔_;constructor
 ·intro h e;exact h (by rw [e])
 ·intro h e;exact h (by cases e;rfl)
theorem LgC.below(h:LgC w ov vs A wx)(hb:Below wx.heap.size wx wy):LgC w ov vs A wy :=
 ⟨h.1.below hb,h.2.1,fun j hj=>(h.2.2.1 j hj).below hb,h.2.2.2.trans (hb.mono h.2.2.2.size)⟩
theorem LgSt.below(h:LgSt w g cap vs0 lv A p wx)(hb:Below wx.heap.size wx wy):LgSt w g cap vs0 lv A p wy:=by
 obtain ⟨a1,a2,a3,a4,a5,a6⟩:=h;exact ⟨a1.below hb,a2,fun j hj=>(a3 j hj).below hb,a4.below hb,a5,a6.trans (hb.mono a6.size)⟩
theorem LgC.nul(w:World)(hb:Below w.heap.size w wx):LgC w (.slice none 0 0) [] [] wx:=⟨OwnE.nil _ _ _ _ _,rfl,fun j hj=>absurd hj (Nat.not_lt_zero _),hb⟩
theorem LgSt.shut(h:LgSt w g cap vs0 lv A p wx):LgC w (.slice (some ⟨g,0,none⟩) (vs0.length+1) cap) (vs0++[lv]) (A++[p]) wx:=by
 obtain ⟨a1,a2,a3,a4,a5,a6⟩:=h;refine ⟨a1,by simp [a2],fun j hj=>?_,a6⟩;rw [List.length_append,List.length_singleton] at hj;rw [aT,aT,a2]
 by_cases hl:j<A.length
 ·rw [if_pos hl,if_pos hl];exact (a3 j hl).zone (fun b _ hz=>(ef _ _ _ b).2 hz.1)
 ·rw [if_neg hl,if_neg hl,show j - A.length=0 by omega];exact (bB (a4.keep (Y:=fun b=>(Value.slice (some ⟨g,0,none⟩) (vs0.length+1) cap).ownBlock≠some b) (.refl _ _) (fun b _ hz=>(ef _ _ _ b).2 hz)) (fun b e=>(ef _ _ _ b).2 (fun e2=>a5 (e2 ▸ (show lv.ownBlock=some b from e)))))
theorem LgC.open(h:LgC w ov vs A w2){v':Value}(ho:OwnE rvE (fun _=>False) w3 w.heap.size 53 v' (vs++[.slice none 0 0]))(hk:KeepZ (fun b=>ov.ownBlock≠some b) w2 w3)(hd:∀ b,b<w2.heap.size->ov.ownBlock≠some b->v'.ownBlock≠some b)(hb3:Below w.heap.size w2 w3) :
  ∃ g' cap',v'=.slice (some ⟨g',0,none⟩) (vs.length+1) cap'/\LgSt w g' cap' vs (.slice none 0 0) A [] w3:=by
 obtain ⟨a1,a2,a3,a4⟩:=h;obtain ⟨g',cap',e⟩:=dQ ho (by simp);rw [List.length_append,List.length_singleton] at e;subst e;refine ⟨g',cap',rfl,ho,a2,fun j hj=>?_,OwnE.nil _ _ _ _ _,by simp [Value.ownBlock],a4.trans hb3⟩;exact (a3 j hj).keep hk (fun b hb hz=>⟨(ef _ _ _ b).1 (hd b hb hz),by simp [Value.ownBlock]⟩)
theorem LgSt.app(h:LgSt w g cap vs0 lv A p w2){lv':Value}(ho:OwnE cellE (fun b=>b≠g) w3 w.heap.size 59 lv' (p++P))(hk:KeepZ (fun b=>lv.ownBlock≠some b) w2 w3)(hd:∀ b,b<w2.heap.size->lv.ownBlock≠some b->lv'.ownBlock≠some b)(hb3:Below w.heap.size w2 w3)(hx:lv'.oneCell'=true) :
  LgSt w g cap vs0 lv' A (p++P) (w3.setCell ⟨g,vs0.length,none⟩ lv'):=by
 obtain ⟨a1,a2,a3,a4,a5,a6⟩:=h;have hg:=a1.lt g rfl;have hu:=(Upd.refl (fun x=>x=g) w3).setCell (p:=⟨g,vs0.length,none⟩) (.inl rfl) lv';have ka:=hd g hg.2 a5;have h1:OwnE rvE (fun _=>False) w3 w.heap.size 53 (.slice (some ⟨g,0,none⟩) (vs0.length+1) cap) (vs0++[lv]):=a1.keep (hk.mono (fun b _ hz=>by
  rcases hz with hz | hz
  ·exact hz.elim
  ·have:g=b:=Option.some.inj (show some g=some b from hz);exact this ▸ a5)) (fun _ _ hz=>hz)
 have h2:=gP (i:=vs0.length) h1 (by simp) lv' hx;rw [List.set_append_right _ _ (Nat.le_refl _),Nat.sub_self] at h2;refine ⟨h2,a2,fun j hj=>?_,?_,ka,(a6.trans hb3).trans (hu.below (Nat.le_trans a6.size hb3.size) (fun x e=>by omega))⟩
 ·exact ((a3 j hj).keep (Y:=fun b=>b≠g/\lv'.ownBlock≠some b) (hk.mono (fun b _ hz=>hz.2)) (fun b hb hz=>⟨hz.1,hd b hb hz.2⟩)).upd hu (fun b hz e=>hz.1 e)
 ·exact ho.upd hu (fun x hz e=>by
   rcases hz with hz | hz
   ·exact hz e
   ·exact ka (by rw [hz,e]))
theorem LgC.held(h:LgC w ov vs A wx):HeldE cellsE (fun _=>True) wx ov A:=by
 obtain ⟨a1,a2,a3,a4⟩:=h;have h1:=bB (a1.keep (Y:=fun b=>ov.ownBlock=some b) (.refl _ _) (fun _ _ hz=>hz.elim)) (fun b e=>e);obtain ⟨ao,c2,e,hl,hm,hn,hc⟩:=id h1;refine ⟨ao,c2,by rw [<-a2];exact e,by rw [<-a2];exact hl,hm,(fun e=>⟨List.eq_nil_of_length_eq_zero (by rw [<-a2,(hn e).1];rfl),(hn e).2⟩),fun i hi=>?_⟩;obtain ⟨b,off,e2,hb,hz,D,hD,hr⟩:=hc i (by rw [a2];exact hi);refine ⟨b,off,e2,hb,trivial,D,hD,?_⟩;exact ⟨vs.getD i rz,hr.1,(a3 i hi).zone (fun _ _ _=>trivial)⟩
end
end
theorem bi(r:Int)(w:World):Calls Tryd.prog 57 #[.int .i32 r] w (fun e w'=>∃ a k,e=.returned (.agg #[.int .i64 1,.slice a 1 k])/\HeldE (be .i32) (fun _=>True) w' (.slice a 1 k) [r]/\Below w.heap.size w w'):=by
 obtain ⟨Wa,jW⟩:=ab (w.alloc (.cells [Value.int .i64 0,.slice none 0 0].toArray 74));obtain ⟨Wb,mL⟩:=ab (Wa.alloc (.cells [Value.int .i32 r].toArray 21));have ba:Below w.heap.size w Wa:=by rw [jW];exact af _ _
 have bb:Below Wa.heap.size Wa Wb:=by rw [mL];exact af _ _
 have sa':Wa.heap.size=w.heap.size+1:=by rw [jW];exact Array.size_push _
 have ga:Has Wa w.heap.size [.int .i64 0,.slice none 0 0] 74:=by rw [jW];exact Has.new w _ _
 have ht:HeldE (be .i32) (fun b=>b≠w.heap.size) Wb (.slice (some ⟨Wa.heap.size,0,none⟩) 1 1) [r]:=by rw [mL];exact ax (Y:=fun _=>False) [.int .i32 r] r rfl (fun _ _ h=>h.elim) (by omega)
 have ga:=Has.below ga bb ga.lt;rw [sa'] at ht;have HA:=aa ga;have HT:=aa ht;have HB:=aa (ba.trans (bb.mono ba.size));have HW:=aa (show (w.alloc (.cells #[Value.int .i64 0,.slice none 0 0] 74)).alloc (.cells #[Value.int .i32 r] 21)=Wb from by rw [mL,jW]);clear jW mL ba bb sa' ga ht;obtain ⟨g,hg⟩:=ab (w.heap.size);have HG:=aa hg;rw [<-hg] at HA HT;clear hg
 go_enter Tryd.func57,Tryd.ntmps57
 go_wp2_with (rw [HW.out,<-HG.out];refine cM rfl 74 (.tmp 2) (.tmp 5) rfl g rfl 74 [.int .i64 0,.slice none 0 0] [.int .i64 1,.slice (some ⟨g+1,0,none⟩) 1 1] 2 rfl HA.out (by kernel_rfl) rfl rfl (by intro v hv;simp at hv;rcases hv with rfl | rfl <;> rfl) ?_;intro w5 h5 b5;have HF:=aa (And.intro h5 (And.intro (HT.out.kept (KeepZ.but b5)) (HB.out.trans (b5.below HB.out.size (by have:=HG.out;omega)))));clear h5 b5)
 exact bodyPost_ret (v:=.agg [Value.int .i64 1,.slice (some ⟨g+1,0,none⟩) 1 1].toArray) (cW Tryd.results57 _ _ g 74 _ _ 2 rfl HF.out.1 Tryd.underlying74 rfl (by kernel_rfl) rfl) rfl ⟨_,_,rfl,HF.out.2.1.zone (fun _ _ _=>trivial),HF.out.2.2⟩
def w51:List Ln:=[([(1,[1]),(1,[2]),(1,[3])],false)]
def x51:List Ln:=[([(1,[1]),(1,[2])],true),([(1,[3]),(0,[])],false)]
theorem bp(w:World):Calls Tryd.prog 20 #[] w (Yes w):=by
 go_enter Tryd.func20,Tryd.ntmps20
 go_wp2_with fail
 refine (bi 1 _).mono ?_;rintro e w1 ⟨a1,k1,rfl,h1,b1⟩;have H1:=aa h1;have B1:=aa b1;clear h1 b1
 go_wp2_with fail
 refine (bi 2 _).mono ?_;rintro e w2 ⟨a2,k2,rfl,h2,b2⟩;have B2:=aa (B1.out.trans (b2.mono B1.out.size));have H1:=aa (H1.out.below b2);have H2:=aa h2;clear h2 b2
 go_wp2_with fail
 refine (bi 3 _).mono ?_;rintro e w3 ⟨a3,k3,rfl,h3,b3⟩;have B3:=aa (B2.out.trans (b3.mono B2.out.size));obtain ⟨V3,mb⟩:=ab (w3.alloc (.cells [Value.int .i64 1,.slice a1 1 k1,.int .i64 1,.slice a2 1 k2,.int .i64 1,.slice a3 1 k3].toArray 74));have b4:Below w3.heap.size w3 V3:=by rw [mb];exact af _ _
 have hr:HeldE cellE (fun _=>True) V3 (.slice (some ⟨w3.heap.size,0,none⟩) 3 3) [(1,[1]),(1,[2]),(1,[3])]:=by
  rw [mb];refine (OwnE.lit (Z:=fun _=>True) (B:=0) (ty:=74) w3 cellE [[.int .i64 1,.slice a1 1 k1],[.int .i64 1,.slice a2 1 k2],[.int .i64 1,.slice a3 1 k3]] [(1,[1]),(1,[2]),(1,[3])] 3 rfl rfl (Nat.zero_le _) (by decide) (fun i hi=>?_) _ rfl).held (fun _ _ _=>trivial)
  match i,hi with
  | 0,_=>exact cell_rep.2 ⟨_,rfl,H1.out.below b3⟩
  | 1,_=>exact cell_rep.2 ⟨_,rfl,H2.out.below b3⟩
  | 2,_=>exact cell_rep.2 ⟨_,rfl,h3⟩
 obtain ⟨V4,mt⟩:=ab (V3.alloc (.cells [Value.slice (some ⟨w3.heap.size,0,none⟩) 3 3,.bool false].toArray 30));have b5:Below V3.heap.size V3 V4:=by rw [mt];exact af _ _
 have hl:HeldE lineE (fun b=>b<V4.heap.size) V4 (.slice (some ⟨V3.heap.size,0,none⟩) 1 1) w51:=by
  have h:=ax (E:=lineE) (w:=V3) (ty:=30) (Y:=fun _=>True) (Z:=fun _=>True) [.slice (some ⟨w3.heap.size,0,none⟩) 3 3,.bool false] ([(1,[1]),(1,[2]),(1,[3])],false) (line_rep.2 ⟨_,rfl,hr⟩) (fun _ _ _=>trivial) trivial;rw [<-mt] at h;exact h.lower
 have s3:V3.heap.size=w3.heap.size+1:=by rw [mb];exact Array.size_push _
 rw [s3] at hl;have HL:=aa (dE _ w51 2 V4 hl (by decide) (by decide) (fun k hk=>by match k,hk with | 0,_=>decide));rw [show bK (wdN 2) w51=x51 from by decide +kernel] at HL;have iI:=aa (B3.out.trans ((b4.trans (b5.mono b4.size)).mono B3.out.size));have HV:=aa (show (w3.alloc (.cells #[Value.int .i64 1,.slice a1 1 k1,.int .i64 1,.slice a2 1 k2,.int .i64 1,.slice a3 1 k3] 74)).alloc (.cells #[Value.slice (some ⟨w3.heap.size,0,none⟩) 3 3,.bool false] 30)=V4 from by rw [mt,mb]);clear h3 b3 mb b4 hr mt b5 hl s3 H1 H2 B1 B2 B3
 go_wp2_with fail
 rw [HV.out];refine HL.out.mono ?_;rintro e w5 ⟨u,rfl,ho,b5⟩;have HU:=aa (ho.held (Z:=fun b=>V4.heap.size<=b) (fun b h _=>h));have iM:=aa (iI.out.trans (b5.mono iI.out.size));clear ho b5 HL HV iI
 go_wp2_with fail
 refine (bi 1 _).mono ?_;rintro e w6 ⟨c1,l1,rfl,h6,b6⟩;have H6:=aa h6;have HU:=aa (HU.out.below b6);have kg:=aa (iM.out.trans (b6.mono iM.out.size));clear h6 b6
 go_wp2_with fail
 refine (bi 2 _).mono ?_;rintro e w7 ⟨c2,l2,rfl,h7,b7⟩;have H6:=aa (H6.out.below b7);have HU:=aa (HU.out.below b7);have j5:=aa (kg.out.trans (b7.mono kg.out.size));obtain ⟨V8,mm⟩:=ab (w7.alloc (.cells [Value.int .i64 1,.slice c1 1 l1,.int .i64 1,.slice c2 1 l2].toArray 74));have b8:Below w7.heap.size w7 V8:=by rw [mm];exact af _ _
 have nC:HeldE cellE (fun _=>True) V8 (.slice (some ⟨w7.heap.size,0,none⟩) 2 2) [(1,[1]),(1,[2])]:=by
  rw [mm];refine (OwnE.lit (Z:=fun _=>True) (B:=0) (ty:=74) w7 cellE [[.int .i64 1,.slice c1 1 l1],[.int .i64 1,.slice c2 1 l2]] [(1,[1]),(1,[2])] 2 rfl rfl (Nat.zero_le _) (by decide) (fun i hi=>?_) _ rfl).held (fun _ _ _=>trivial)
  match i,hi with
  | 0,_=>exact cell_rep.2 ⟨_,rfl,H6.out⟩
  | 1,_=>exact cell_rep.2 ⟨_,rfl,h7⟩
 have HV8:=aa (show w7.alloc (.cells #[Value.int .i64 1,.slice c1 1 l1,.int .i64 1,.slice c2 1 l2] 74)=V8 from by rw [mm]);obtain ⟨g7,nz⟩:=ab (w7.heap.size);rw [<-nz] at nC;have HG7:=aa nz;have HR8:=aa nC;have HU:=aa (HU.out.below b8);have ls:=aa (j5.out.trans (b8.mono j5.out.size));clear h7 b7 mm b8 nC nz H6
 go_wp2_with fail
 rw [HV8.out,<-HG7.out];refine (bi 3 V8).mono ?_;rintro e w9 ⟨c3,l3,rfl,h9,b9⟩;obtain ⟨Va,l5⟩:=ab (w9.alloc (.cells [Value.int .i64 1,.slice c3 1 l3,.int .i64 0,.slice none 0 0].toArray 74));have ba:Below w9.heap.size w9 Va:=by rw [l5];exact af _ _
 have hra:HeldE cellE (fun _=>True) Va (.slice (some ⟨w9.heap.size,0,none⟩) 2 2) [(1,[3]),(0,[])]:=by
  rw [l5];refine (OwnE.lit (Z:=fun _=>True) (B:=0) (ty:=74) w9 cellE [[.int .i64 1,.slice c3 1 l3],[.int .i64 0,.slice none 0 0]] [(1,[3]),(0,[])] 2 rfl rfl (Nat.zero_le _) (by decide) (fun i hi=>?_) _ rfl).held (fun _ _ _=>trivial)
  match i,hi with
  | 0,_=>exact cell_rep.2 ⟨_,rfl,h9⟩
  | 1,_=>exact cell_rep.2 ⟨_,rfl,HeldE.nil _ _ _⟩
 have sa:Va.heap.size=w9.heap.size+1:=by rw [l5];exact Array.size_push _
 obtain ⟨Vb,mC⟩:=ab (Va.alloc (.cells [Value.slice (some ⟨g7,0,none⟩) 2 2,.bool true,.slice (some ⟨w9.heap.size,0,none⟩) 2 2,.bool false].toArray 30));have bb:Below Va.heap.size Va Vb:=by rw [mC];exact af _ _
 have nH:HeldE lineE (fun _=>True) Vb (.slice (some ⟨Va.heap.size,0,none⟩) 2 2) x51:=by
  rw [mC];refine (OwnE.lit (Z:=fun _=>True) (B:=0) (ty:=30) Va lineE [[.slice (some ⟨g7,0,none⟩) 2 2,.bool true],[.slice (some ⟨w9.heap.size,0,none⟩) 2 2,.bool false]] x51 2 rfl rfl (Nat.zero_le _) (by decide) (fun i hi=>?_) _ rfl).held (fun _ _ _=>trivial)
  match i,hi with
  | 0,_=>exact line_rep.2 ⟨_,rfl,(HR8.out.below b9).below ba⟩
  | 1,_=>exact line_rep.2 ⟨_,rfl,hra⟩
 rw [sa] at nH;have hu:=((HU.out.below b9).below ba).below bb;obtain ⟨uo,uc,eu⟩:=hu.len;have HS:=aa (dt _ _ u _ x51 x51 Vb hu nH);rw [dr] at HS;have HB:=aa (ls.out.trans ((b9.trans ((ba.trans (bb.mono ba.size)).mono b9.size)).mono ls.out.size));have HVB:=aa (show (w9.alloc (.cells #[Value.int .i64 1,.slice c3 1 l3,.int .i64 0,.slice none 0 0] 74)).alloc (.cells #[Value.slice (some ⟨g7,0,none⟩) 2 2,.bool true,.slice (some ⟨w9.heap.size,0,none⟩) 2 2,.bool false] 30)=Vb from by rw [mC,l5]);clear h9 b9 l5 ba hra sa mC bb nH hu eu HU HR8 HG7 HV8 ls
 go_wp2_with fail
 rw [HVB.out];refine HS.out.mono ?_;rintro e wf ⟨rfl,bf⟩;have HF:=aa (HB.out.trans (bf.mono HB.out.size));clear bf;go_wp2;go_ret;exact ⟨ae,HF.out⟩
end Go.Proofs.YthdphijabffpiaaDoor
