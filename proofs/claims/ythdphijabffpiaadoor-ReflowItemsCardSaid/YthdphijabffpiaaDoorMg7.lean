import Derived.Test.YthdphijabffpiaaDoorZ0
import Derived.Test.YthdphijabffpiaaDoorRflE
import Derived.Test.YthdphijabffpiaaDoorMg2
import Derived.Test.YthdphijabffpiaaDoorMg5
import Derived.Test.YthdphijabffpiaaDoorCellP
import Derived.Test.YthdphijabffpiaaDoorMg1
import Derived.Lib.MinMax
import Derived.Deep.Cut
import Derived.Test.YthdphijabffpiaaDoorGrdR
set_option maxRecDepth 100000
set_option linter.unusedVariables false
set_option linter.unusedSimpArgs false
set_option maxHeartbeats 3000000
namespace Go.Proofs.YthdphijabffpiaaDoor
open Go.RowKit Go.ChangeShapes Go.WideShapes
theorem eT{L:List Cl}(h:am L=true):∀ c ∈ ar L,ap c=true:=(ed L.length L (Nat.le_refl _) h).1
theorem cw(Ls:List Ln)(hs:∀ k,k<Ls.length->am (Ls.getD k zl).1=true):∀ k,k<=Ls.length->(∀ X ∈ (aC Ls k).1,∀ c ∈ X,ap c=true)/\∀ c ∈ (aC Ls k).2,ap c=true
 |0=>fun _=>⟨fun X h=>absurd h List.not_mem_nil,fun c h=>absurd h List.not_mem_nil⟩
 |k+1=>fun hk=>by
  obtain ⟨h1,h2⟩:=cw Ls hs k (by omega);have hp:∀ c ∈ (aC Ls k).2++bd Ls k,ap c=true:=by
   intro c hc
   rcases List.mem_append.1 hc with hc | hc
   ·exact h2 c hc
   ·exact eT (cL _ (hs k (by omega))) c hc
  unfold aC
  split
  ·exact ⟨h1,hp⟩
  ·refine ⟨fun X hX=>?_,fun c h=>absurd h List.not_mem_nil⟩
   rcases List.mem_append.1 hX with hX | hX
   ·exact h1 X hX
   ·rw [List.mem_singleton.1 hX];exact hp
theorem dk(Ls:List Ln):∀ k,(aC Ls k).1.flatten.length+(aC Ls k).2.length<=bs Ls k
 |0=>Nat.le_refl _
 |k+1=>by
  have ih:=dk Ls k;have hp:=cM Ls k;unfold aC bs
  split
  ·rw [List.length_append];show (aC Ls k).1.flatten.length+_<=_;omega
  ·rw [List.flatten_append,List.length_append];show (aC Ls k).1.flatten.length+(((aC Ls k).2++bd Ls k)++[]).length+0<=_;rw [List.append_nil,List.length_append];omega
theorem dz(wd:Nat)(X:List Cl)(h:1<=wd):(aL wd X).length<=X.length+1:=by
 unfold aL;have:=(bk wd X h X.length).2;rw [List.length_append];show _+1<=_;omega
theorem dN(wd:Nat)(h:1<=wd):∀ A:List (List Cl),(A.flatMap (aL wd)).length<=A.flatten.length+A.length
 |[]=>Nat.le_refl _
 |X :: A=>by
  have ih:=dN wd h A;have h1:=dz wd X h;rw [List.flatMap_cons,List.length_append,List.flatten_cons,List.length_append,List.length_cons];omega
theorem cK{α:Type}:∀ (A:List (List α)) (i:Nat),(A.getD i []).length<=A.flatten.length
 | [],i=>Nat.zero_le _
 | X :: A,0=>by rw [List.flatten_cons,List.length_append];show X.length<=_;omega
 | X :: A,i+1=>by rw [List.flatten_cons,List.length_append];have:=cK A i;show (A.getD i []).length<=_;omega
theorem bS{α:Type}:∀ (A:List (List α)) (i:Nat),(A.take i).flatten.length<=A.flatten.length
 | [],i=>by simp
 | X :: A,0=>by simp
 | X :: A,i+1=>by rw [List.take_succ_cons,List.flatten_cons,List.flatten_cons,List.length_append,List.length_append];have:=bS A i;omega
def dA(wd:Nat)(Ls:List Ln):List Ln:=(cy Ls).flatMap (aL wd)
theorem eg{Z:ak}{w:World}{ao:Option Addr}{n cap:Nat}{L:List (List Cl)}(h:HeldE cellsE Z w (.slice ao n cap) L):n=L.length/\n<=cap/\∀ i,i<L.length->∃ b off u,ao=some ⟨b,off,none⟩/\b<w.heap.size/\w.cell? ⟨b,off+i,none⟩=some u/\HeldE cellE Z w u (L.getD i []):=by
 obtain ⟨h1,h2,h3⟩:=h.spots;refine ⟨h1,h2,fun i hi=>?_⟩;obtain ⟨b,off,rfl,hb,hz,C,hC,u,rfl,hr⟩:=h3 i hi;have hc:=hC 0 (by decide);rw [show off+i * cellsE.size+0=off+i from by show off+i * 1+0=_;omega] at hc;exact ⟨b,off,u,rfl,hb,hc,hr⟩
theorem eU(v:Value)(Ls:List Ln)(w0:Int)(w:World)(hv:HeldE lineE (fun b=>b<w.heap.size) w v Ls)(hl:Ls.length<=100000)(ht:bs Ls Ls.length<=100000)(hs:∀ k,k<Ls.length->am (Ls.getD k zl).1=true):Calls Tryd.prog 23 #[v,.int .i64 w0] w (fun e w'=>∃ u,e=.returned (.tuple #[u,.nilIface])/\OwnE lineE (fun b=>w.heap.size<=b) w' w.heap.size 30 u (dA (wdN w0) Ls)/\Below w.heap.size w w'):=by
 have HL:=aa (f4 v Ls w hv (by omega) (by omega) hs);obtain ⟨A,hA⟩:=ab (cy Ls);have hAR:∀ X ∈ A,∀ c ∈ X,ap c=true:=by rw [hA];exact (cw Ls hs _ (Nat.le_refl _)).1
 have hAS:A.flatten.length<=100000:=by rw [hA];have:=dk Ls Ls.length;unfold cy;omega
 have hAL:A.length<=100000:=by rw [hA];have:=(cN Ls Ls.length).1;unfold cy;omega
 have HAR:=aa hAR;have HAS:=aa hAS;have gP:1<=wdN w0:=by unfold wdN;omega
 have HWD:=aa gP;obtain ⟨wd,hwd⟩:=ab (wdN w0);have HW:=aa hwd;have HE:=aa (show dA (wdN w0) Ls=A.flatMap (aL wd) from by unfold dA;rw [hA,hwd]);rw [<-hA] at HL;rw [HE.out];clear hA hAR hAS hs hv gP hwd HE
 go_enter Tryd.func23,Tryd.ntmps23
 go_upto_region 1 with (fail)
 go_wp2_with fail
 refine (HL.out).mono ?_;rintro e w1 ⟨av,rfl,hao,b1⟩;have lS:=hao.held (fun _ _ _=>trivial);obtain ⟨ao,ac,eav⟩:=lS.len;subst eav;obtain ⟨_,hac,hat⟩:=eg lS;have kW:=aa hat;obtain ⟨m,hm⟩:=ab (A.length);have HM:=aa hm;rw [<-hm] at hac hAL ⊢;have gG:=aa b1;clear hao lS hat hm b1;go_wp2
 go_loopw [8,23] (fun lv iv wr=>∃ i:Nat,i<=m/\iv=.int .i64 i/\OwnE lineE (fun b=>w.heap.size<=b) wr w1.heap.size 30 lv ((A.take i).flatMap (aL wd))/\Below w1.heap.size w1 wr) (fun _ iv _=>m - (intOf iv).toNat)
 case atStart=>exact ⟨0,Nat.zero_le _,rfl,OwnE.nil _ _ _ _ _,Below.refl _ _⟩
 case round =>
  obtain ⟨i,hi,rfl,ho,hb⟩:=hrel;obtain ⟨wo,jd⟩:=ab (wr);subst jd;have HO:=aa ho;have HB:=aa hb;clear ho hb
  by_cases him:i<m
  ·have d1:(i:Int)<(m:Int):=by omega
   obtain ⟨b,off,u,e0,hb,c0,hh⟩:=kW.out i (by rw [<-HM.out];exact him);subst e0;obtain ⟨X,hX⟩:=ab (A.getD i []);have hxl:X.length<=100000:=by rw [hX];exact Nat.le_trans (cK A i) HAS.out
   have hxr:∀ k,k<X.length->ap (X.getD k zc)=true:=by
    intro k hk;have hia:i<A.length:=by rw [<-HM.out];exact him
    have h1:X ∈ A:=by
     rw [hX,show A.getD i []=A[i] from by simp [List.getD,List.getElem?_eq_getElem hia]];exact List.getElem_mem _
    refine HAR.out X h1 _ ?_;rw [show X.getD k zc=X[k] from by simp [List.getD,List.getElem?_eq_getElem hk]];exact List.getElem_mem _
   rw [<-hX] at hh;have HX:=aa (show (A.take (i+1)).flatMap (aL wd)=(A.take i).flatMap (aL wd)++aL wd X from by
    have:i<A.length:=by rw [<-HM.out];exact him
    rw [List.take_succ_eq_append_getElem this,List.flatMap_append,hX,show A.getD i []=A[i] from by simp [List.getD,List.getElem?_eq_getElem this]]
    simp)
   have HN:=aa (show ((A.take i).flatMap (aL wd)).length<=200000/\(aL wd X).length<=200000 from by
    have lk:1<=wd:=by rw [HW.out];exact HWD.out
    have h1:=dN wd lk (A.take i);have h2:=bS A i;have h3:=HAS.out;have h4:=dz wd X lk;have h5:=HM.out;rw [List.length_take] at h1;omega)
   have c0:=(HB.out.cell (p:=⟨b,off+i,none⟩) hb).trans c0;have HK:=aa (dR u X w0 wo ((hh.below HB.out).lower) (by omega) hxr);rw [<-HW.out] at HK;have lH:i<ac:=by omega
   clear hX hh hxr hb
   go_wp2_with fail
   refine HK.out.mono ?_;rintro e w3 ⟨bv,rfl,ki,b3⟩;have hX:=(ki.held (fun b h _=>h)).zone (Y:=fun b=>w.heap.size<=b/\u8.ownBlock≠some b) (fun b _ hz=>⟨Nat.le_trans gG.out.size (Nat.le_trans HB.out.size hz),fun e=>by have:=(HO.out.lt b e).2;omega⟩);have HX3:=aa hX;have ly:=aa (HO.out.below b3);have ij:=aa (HB.out.trans (b3.mono HB.out.size));have j2:=aa ij.out.size;clear hX ki b3 c0 HK HO
   go_wp2_with (at_builtin;refine ai (E:=lineE) (Z:=fun b=>w.heap.size<=b) rfl (.tmp 36) (.tmp 37) 22 rfl (.agg #[.slice none 0 0,.bool false]) 32 Tryd.underlying22 cO rfl (by decide) rfl rfl ly.out HX3.out (by have:=HN.out;omega) (by have:=HN.out;omega) j2.out ?_)
   intro v4 w4 jk hb4 hk4 _;have HF:=aa (And.intro (show OwnE lineE (fun b=>w.heap.size<=b) w4 w1.heap.size 30 v4 ((A.take (i+1)).flatMap (aL wd)) from by rw [HX.out];exact jk) (ij.out.trans hb4));clear jk hb4 hk4;go_wp2
   go_roundw
   case rel=>exact ⟨i+1,by omega,by go_num,HF.out⟩
   case measure=>simp [intOf] <;> omega
  ·obtain rfl:i=m:=by omega
   have d1:¬ (i:Int)<(i:Int):=by omega
   have HF:=aa (And.intro (show OwnE lineE (fun b=>w.heap.size<=b) wo w.heap.size 30 u8 (A.flatMap (aL wd)) from by
    have h:=HO.out;rw [HM.out,List.take_length] at h;exact h.base gG.out.size) (gG.out.trans (HB.out.mono gG.out.size)))
   clear HO HB;go_wp2;exact bodyPost_ret (v:=.tuple #[u8,.nilIface]) (by simp [results,Tryd.results23,go_sem]) rfl ⟨u8,rfl,HF.out.1,HF.out.2⟩
section
theorem dy{α:Type}{E:Elem α}{Z:ak}{w:World}{B:Nat}{ty:TypeId}{v:Value}{L:List α}(h:OwnE E Z w B ty v L)(hz:∀ b,v.ownBlock=some b->Z b):HeldE E Z w v L:=by
 obtain ⟨CS,h1,h2,h3⟩:=h;have gR:=aZ h2 h3
 rcases h1.2 with ⟨rfl,h0⟩ | ⟨g,cap,cur,rfl,hB,hg,hn,hmx,_⟩
 ·have:L=[]:=List.eq_nil_of_length_eq_zero h0;subst this;exact HeldE.nil _ _ _
 ·refine ⟨some ⟨g,0,none⟩,cap,rfl,hn,hmx,(fun e=>by cases e),fun i hi=>?_⟩;have jQ:=(Array.getElem?_eq_some_iff.1 hg).1;refine ⟨g,0,rfl,jQ,hz g rfl,CS.getD i [],fun j hj=>?_,E.keep (.refl _ _) (fun b _ h=>h.1) (h3 i hi)⟩;rw [Nat.zero_add,h1.cellAt (i * E.size+j) (by
   have:i * E.size+E.size<=L.length * E.size:=by rw [<-Nat.succ_mul];exact Nat.mul_le_mul_right _ hi
   omega)]
  exact bl gR i j (by omega) hj
abbrev rbv(gl wd:Nat):Value:=.slice (some ⟨gl,0,none⟩) wd wd
def RbC(w:World)(g cap:Nat)(vs:List (Value × Bool))(Ls:List Ln)(wx:World):Prop :=
 OwnE rlE (fun _=>False) wx w.heap.size 30 (.slice (some ⟨g,0,none⟩) vs.length cap) vs/\vs.length=Ls.length/\(∀ j,j<Ls.length->(vs.getD j zrl).2=(Ls.getD j zl).2/\HeldE cellE (fun b=>w.heap.size<=b/\b≠g) wx (vs.getD j zrl).1 (Ls.getD j zl).1)/\Below w.heap.size w wx
def RbSt(w:World)(g cap gl wd:Nat)(vs0:List (Value × Bool))(Ls:List Ln)(C:List Cl)(wx:World):Prop :=
 OwnE rlE (fun _=>False) wx w.heap.size 30 (.slice (some ⟨g,0,none⟩) (vs0.length+1) cap) (vs0++[(rbv gl wd,false)])/\vs0.length=Ls.length/\(∀ j,j<Ls.length->(vs0.getD j zrl).2=(Ls.getD j zl).2/\HeldE cellE (fun b=>w.heap.size<=b/\b≠g/\b≠gl) wx (vs0.getD j zrl).1 (Ls.getD j zl).1)/\OwnE cellE (fun b=>w.heap.size<=b/\b≠g) wx w.heap.size 74 (rbv gl wd) (C++List.replicate (wd - C.length) zc)/\gl≠g/\C.length<=wd/\Below w.heap.size w wx
section
variable {w wx wy wa w2 w3 : World} {g cap gl wd : Nat} {vs0 vs : List (Value × Bool)} {Ls : List Ln} {C : List Cl}
theorem RbSt.below(h:RbSt w g cap gl wd vs0 Ls C wx)(hb:Below wx.heap.size wx wy):RbSt w g cap gl wd vs0 Ls C wy:=by
 obtain ⟨a1,a2,a3,a4,a5,a6,a7⟩:=h;exact ⟨a1.below hb,a2,fun j hj=>⟨(a3 j hj).1,(a3 j hj).2.below hb⟩,a4.below hb,a5,a6,a7.trans (hb.mono a7.size)⟩
theorem RbSt.shut(h:RbSt w g cap gl wd vs0 Ls C wx){b:Bool}(ho:OwnE rlE (fun _=>False) wy w.heap.size 30 (.slice (some ⟨g,0,none⟩) (vs0.length+1) cap) (vs0++[(rbv gl wd,b)]))(hu:Upd (fun x=>x=g) wx wy):RbC w g cap (vs0++[(rbv gl wd,b)]) (Ls++[aS wd C b]) wy:=by
 obtain ⟨a1,a2,a3,a4,a5,a6,a7⟩:=h;have hg:=a1.lt g rfl;refine ⟨by rw [List.length_append];exact ho,by simp [a2],fun j hj=>?_,a7.trans (hu.below a7.size (fun x e=>by omega))⟩;rw [List.length_append,List.length_singleton] at hj;rw [aX,aX,a2]
 by_cases hl:j<Ls.length
 ·rw [if_pos hl,if_pos hl];exact ⟨(a3 j hl).1,(((a3 j hl).2.upd hu (fun b hz e=>hz.2.1 e))).zone (fun b _ hz=>⟨hz.1,hz.2.1⟩)⟩
 ·rw [if_neg hl,if_neg hl,show j - Ls.length=0 by omega];refine ⟨rfl,?_⟩;have h1:=a4.upd hu (fun x hz e=>by
   rcases hz with hz | hz
   ·exact hz.2 e
   ·have:gl=x:=Option.some.inj (show some gl=some x from hz);exact a5 (this.trans e))
  exact dy h1 (fun b e=>by
   have:gl=b:=Option.some.inj (show some gl=some b from e);subst this;exact ⟨(h1.lt gl rfl).1,a5⟩)
theorem RbC.open(h:RbC w g cap vs Ls wa){v':Value}(hb:Below wa.heap.size wa w2)(hn:OwnE cellE (fun _=>False) w2 wa.heap.size 74 (rbv wa.heap.size wd) (List.replicate wd zc))
  (ho:OwnE rlE (fun _=>False) w3 w.heap.size 30 v' (vs++[(rbv wa.heap.size wd,false)])) (hk:KeepZ (fun b=>(Value.slice (some ⟨g,0,none⟩) vs.length cap).ownBlock≠some b) w2 w3) (hd:∀ b,b<w2.heap.size->(Value.slice (some ⟨g,0,none⟩) vs.length cap).ownBlock≠some b->v'.ownBlock≠some b) (hb3:Below w.heap.size w2 w3) :
  ∃ g' cap',v'=.slice (some ⟨g',0,none⟩) (vs.length+1) cap'/\RbSt w g' cap' wa.heap.size wd vs Ls [] w3:=by
 obtain ⟨a1,a2,a3,a4⟩:=h;obtain ⟨g',cap',e⟩:=fy ho (by simp);rw [List.length_append,List.length_singleton] at e;subst e;have jQ:=(hn.lt wa.heap.size rfl).2;have lT:=a1.lt g rfl;have hne:∀ x:Nat,(Value.slice (some ⟨g,0,none⟩) vs.length cap).ownBlock≠some x↔x≠g:=fun x=>by
  show (some g≠some x)↔_;constructor
  ·intro h e;exact h (by rw [e])
  ·intro h e;exact h (by cases e;rfl)
 have j5:∀ b,b<w2.heap.size->b≠g->b≠g':=fun b hb1 hb2 e=>by
  subst e;exact hd b hb1 ((hne b).2 hb2) rfl
 refine ⟨g',cap',rfl,ho,a2,fun j hj=>⟨(a3 j hj).1,?_⟩,?_,j5 _ jQ (by omega),Nat.zero_le _,(a4.trans (hb.mono a4.size)).trans hb3⟩
 ·refine (((a3 j hj).2.zone (Y:=fun b=>w.heap.size<=b/\b≠g/\b<wa.heap.size) (fun b hb1 hz=>⟨hz.1,hz.2,hb1⟩)).below hb).keep (hk.mono (fun b _ hz=>(hne b).2 hz.2.1)) (fun b hb1 hz=>⟨hz.1,j5 b hb1 hz.2.1,by omega⟩)
 ·have h1:OwnE cellE (fun _=>False) w3 wa.heap.size 74 (rbv wa.heap.size wd) (List.replicate wd zc):=hn.keep (hk.mono (fun b _ hz=>(hne b).2 (by
   rcases hz with hz | hz
   ·exact hz.elim
   ·have:wa.heap.size=b:=Option.some.inj (show some wa.heap.size=some b from hz);omega))) (fun _ _ hz=>hz)
  exact (h1.keep (.refl _ _) (fun _ _ hz=>hz.elim)).base a4.size
theorem RbC.held(h:RbC w g cap vs Ls wx):HeldE lineE (fun b=>w.heap.size<=b) wx (.slice (some ⟨g,0,none⟩) vs.length cap) Ls:=by
 obtain ⟨a1,a2,a3,a4⟩:=h;have h1:=dy (a1.keep (Y:=fun b=>b=g) (.refl _ _) (fun _ _ hz=>hz.elim)) (fun b e=>(Option.some.inj (show some g=some b from e)).symm);obtain ⟨ao,c2,e,hl,hm,hn,hc⟩:=id h1
 cases e
 refine ⟨_,cap,by rw [a2],by rw [<-a2];exact hl,hm,(fun e=>by cases e),fun i hi=>?_⟩;obtain ⟨b,off,e2,hb,hz,D,hD,hr⟩:=hc i (by rw [a2];exact hi)
 cases e2
 obtain ⟨b1,b2⟩:=a3 i hi;refine ⟨g,0,rfl,hb,(a1.lt g rfl).1,D,hD,line_rep.2 ⟨(vs.getD i zrl).1,?_,b2.zone (fun b _ hz=>hz.1)⟩⟩;have:=hr.1;rw [this];show [(vs.getD i zrl).1,Value.bool (vs.getD i zrl).2]=_;rw [b1]
 rfl
theorem f3(C:List Cl)(x:Cl)(wd:Nat)(h:C.length<wd):(C++List.replicate (wd - C.length) zc).set C.length x=(C++[x])++List.replicate (wd - (C++[x]).length) zc:=by
 rw [List.set_append_right _ _ (Nat.le_refl _),Nat.sub_self,List.length_append,List.length_singleton,show wd - C.length=(wd - (C.length+1))+1 by omega,List.replicate_succ,List.set_cons_zero,List.append_assoc]
 rfl
theorem RbSt.put(h:RbSt w g cap gl wd vs0 Ls C wx)(x:Cl)(hx:C.length<wd){Zi:Nat->ak}(ho:OwnI cellE Zi wy w.heap.size 74 (rbv gl wd) ((C++List.replicate (wd - C.length) zc).set C.length x))(hz:∀ i b,b<wy.heap.size->Zi i b->w.heap.size<=b/\b≠g)(hu:Upd (fun b=>b=gl) wx wy):RbSt w g cap gl wd vs0 Ls (C++[x]) wy:=by
 obtain ⟨a1,a2,a3,a4,a5,a6,a7⟩:=h;rw [f3 C x wd hx] at ho;have jQ:=a4.lt gl rfl;refine ⟨a1.upd hu (fun x hz e=>?_),a2,fun j hj=>⟨(a3 j hj).1,(a3 j hj).2.upd hu (fun b hz e=>hz.2.2 e)⟩,ho.all (fun i b _ hb h=>hz i b hb h),a5,by rw [List.length_append];exact hx,a7.trans (hu.below a7.size (fun b e=>by omega))⟩
 rcases hz with hz | hz
 ·exact hz
 ·have:g=x:=Option.some.inj (show some g=some x from hz);exact a5 (e.symm.trans this.symm)
end
end
theorem aU(r:Int)(w:World):Calls Tryd.prog 57 #[.int .i32 r] w (fun e w'=>∃ a k,e=.returned (.agg #[.int .i64 1,.slice a 1 k])/\HeldE (aR .i32) (fun _=>True) w' (.slice a 1 k) [r]/\Below w.heap.size w w'):=by
 obtain ⟨Wa,iY⟩:=ab (w.alloc (.cells [Value.int .i64 0,.slice none 0 0].toArray 74));obtain ⟨Wb,k6⟩:=ab (Wa.alloc (.cells [Value.int .i32 r].toArray 21));have ba:Below w.heap.size w Wa:=by rw [iY];exact af _ _
 have bb:Below Wa.heap.size Wa Wb:=by rw [k6];exact af _ _
 have sa':Wa.heap.size=w.heap.size+1:=by rw [iY];exact Array.size_push _
 have ga:Has Wa w.heap.size [.int .i64 0,.slice none 0 0] 74:=by rw [iY];exact Has.new w _ _
 have ht:HeldE (aR .i32) (fun b=>b≠w.heap.size) Wb (.slice (some ⟨Wa.heap.size,0,none⟩) 1 1) [r]:=by rw [k6];exact aB (Y:=fun _=>False) [.int .i32 r] r rfl (fun _ _ h=>h.elim) (by omega)
 have ga:=Has.below ga bb ga.lt;rw [sa'] at ht;have HA:=aa ga;have HT:=aa ht;have HB:=aa (ba.trans (bb.mono ba.size));have HW:=aa (show (w.alloc (.cells #[Value.int .i64 0,.slice none 0 0] 74)).alloc (.cells #[Value.int .i32 r] 21)=Wb from by rw [k6,iY]);clear iY k6 ba bb sa' ga ht;obtain ⟨g,hg⟩:=ab (w.heap.size);have HG:=aa hg;rw [<-hg] at HA HT;clear hg
 go_enter Tryd.func57,Tryd.ntmps57
 go_wp2_with (rw [HW.out,<-HG.out];refine cm rfl 74 (.tmp 2) (.tmp 5) rfl g rfl 74 [.int .i64 0,.slice none 0 0] [.int .i64 1,.slice (some ⟨g+1,0,none⟩) 1 1] 2 rfl HA.out (by kernel_rfl) rfl rfl (by intro v hv;simp at hv;rcases hv with rfl | rfl <;> rfl) ?_;intro w5 h5 b5;have HF:=aa (And.intro h5 (And.intro (HT.out.kept (KeepZ.but b5)) (HB.out.trans (b5.below HB.out.size (by have:=HG.out;omega)))));clear h5 b5)
 exact bodyPost_ret (v:=.agg [Value.int .i64 1,.slice (some ⟨g+1,0,none⟩) 1 1].toArray) (cB Tryd.results57 _ _ g 74 _ _ 2 rfl HF.out.1 Tryd.underlying74 rfl (by kernel_rfl) rfl) rfl ⟨_,_,rfl,HF.out.2.1.zone (fun _ _ _=>trivial),HF.out.2.2⟩
def w51:List Ln:=[([(1,[1]),(1,[2]),(1,[3])],false)]
def x51:List Ln:=[([(1,[1]),(1,[2])],true),([(1,[3]),(0,[])],false)]
theorem bc(w:World):Calls Tryd.prog 20 #[] w (Yes w):=by
 go_enter Tryd.func20,Tryd.ntmps20
 go_wp2_with fail
 refine (aU 1 _).mono ?_;rintro e w1 ⟨a1,k1,rfl,h1,b1⟩;have H1:=aa h1;have B1:=aa b1;clear h1 b1
 go_wp2_with fail
 refine (aU 2 _).mono ?_;rintro e w2 ⟨a2,k2,rfl,h2,b2⟩;have B2:=aa (B1.out.trans (b2.mono B1.out.size));have H1:=aa (H1.out.below b2);have H2:=aa h2;clear h2 b2
 go_wp2_with fail
 refine (aU 3 _).mono ?_;rintro e w3 ⟨a3,k3,rfl,h3,b3⟩;have B3:=aa (B2.out.trans (b3.mono B2.out.size));obtain ⟨V3,kH⟩:=ab (w3.alloc (.cells [Value.int .i64 1,.slice a1 1 k1,.int .i64 1,.slice a2 1 k2,.int .i64 1,.slice a3 1 k3].toArray 74));have b4:Below w3.heap.size w3 V3:=by rw [kH];exact af _ _
 have hr:HeldE cellE (fun _=>True) V3 (.slice (some ⟨w3.heap.size,0,none⟩) 3 3) [(1,[1]),(1,[2]),(1,[3])]:=by
  rw [kH];refine (OwnE.lit (Z:=fun _=>True) (B:=0) (ty:=74) w3 cellE [[.int .i64 1,.slice a1 1 k1],[.int .i64 1,.slice a2 1 k2],[.int .i64 1,.slice a3 1 k3]] [(1,[1]),(1,[2]),(1,[3])] 3 rfl rfl (Nat.zero_le _) (by decide) (fun i hi=>?_) _ rfl).held (fun _ _ _=>trivial)
  match i,hi with
  | 0,_=>exact cell_rep.2 ⟨_,rfl,H1.out.below b3⟩
  | 1,_=>exact cell_rep.2 ⟨_,rfl,H2.out.below b3⟩
  | 2,_=>exact cell_rep.2 ⟨_,rfl,h3⟩
 obtain ⟨V4,lc⟩:=ab (V3.alloc (.cells [Value.slice (some ⟨w3.heap.size,0,none⟩) 3 3,.bool false].toArray 30));have b5:Below V3.heap.size V3 V4:=by rw [lc];exact af _ _
 have hl:HeldE lineE (fun b=>b<V4.heap.size) V4 (.slice (some ⟨V3.heap.size,0,none⟩) 1 1) w51:=by
  have h:=aB (E:=lineE) (w:=V3) (ty:=30) (Y:=fun _=>True) (Z:=fun _=>True) [.slice (some ⟨w3.heap.size,0,none⟩) 3 3,.bool false] ([(1,[1]),(1,[2]),(1,[3])],false) (line_rep.2 ⟨_,rfl,hr⟩) (fun _ _ _=>trivial) trivial;rw [<-lc] at h;exact h.lower
 have s3:V3.heap.size=w3.heap.size+1:=by rw [kH];exact Array.size_push _
 rw [s3] at hl;have HL:=aa (eU _ w51 2 V4 hl (by decide) (by decide) (fun k hk=>by match k,hk with | 0,_=>decide));rw [show dA (wdN 2) w51=x51 from by decide +kernel] at HL;have g2:=aa (B3.out.trans ((b4.trans (b5.mono b4.size)).mono B3.out.size));have HV:=aa (show (w3.alloc (.cells #[Value.int .i64 1,.slice a1 1 k1,.int .i64 1,.slice a2 1 k2,.int .i64 1,.slice a3 1 k3] 74)).alloc (.cells #[Value.slice (some ⟨w3.heap.size,0,none⟩) 3 3,.bool false] 30)=V4 from by rw [lc,kH]);clear h3 b3 kH b4 hr lc b5 hl s3 H1 H2 B1 B2 B3
 go_wp2_with fail
 rw [HV.out];refine HL.out.mono ?_;rintro e w5 ⟨u,rfl,ho,b5⟩;have HU:=aa (ho.held (Z:=fun b=>V4.heap.size<=b) (fun b h _=>h));have hU:=aa (g2.out.trans (b5.mono g2.out.size));clear ho b5 HL HV g2
 go_wp2_with fail
 refine (aU 1 _).mono ?_;rintro e w6 ⟨c1,l1,rfl,h6,b6⟩;have H6:=aa h6;have HU:=aa (HU.out.below b6);have jD:=aa (hU.out.trans (b6.mono hU.out.size));clear h6 b6
 go_wp2_with fail
 refine (aU 2 _).mono ?_;rintro e w7 ⟨c2,l2,rfl,h7,b7⟩;have H6:=aa (H6.out.below b7);have HU:=aa (HU.out.below b7);have HB7:=aa (jD.out.trans (b7.mono jD.out.size));obtain ⟨V8,kV⟩:=ab (w7.alloc (.cells [Value.int .i64 1,.slice c1 1 l1,.int .i64 1,.slice c2 1 l2].toArray 74));have b8:Below w7.heap.size w7 V8:=by rw [kV];exact af _ _
 have lr:HeldE cellE (fun _=>True) V8 (.slice (some ⟨w7.heap.size,0,none⟩) 2 2) [(1,[1]),(1,[2])]:=by
  rw [kV];refine (OwnE.lit (Z:=fun _=>True) (B:=0) (ty:=74) w7 cellE [[.int .i64 1,.slice c1 1 l1],[.int .i64 1,.slice c2 1 l2]] [(1,[1]),(1,[2])] 2 rfl rfl (Nat.zero_le _) (by decide) (fun i hi=>?_) _ rfl).held (fun _ _ _=>trivial)
  match i,hi with
  | 0,_=>exact cell_rep.2 ⟨_,rfl,H6.out⟩
  | 1,_=>exact cell_rep.2 ⟨_,rfl,h7⟩
 have HV8:=aa (show w7.alloc (.cells #[Value.int .i64 1,.slice c1 1 l1,.int .i64 1,.slice c2 1 l2] 74)=V8 from by rw [kV]);obtain ⟨g7,lC⟩:=ab (w7.heap.size);rw [<-lC] at lr;have HG7:=aa lC;have HR8:=aa lr;have HU:=aa (HU.out.below b8);have lx:=aa (HB7.out.trans (b8.mono HB7.out.size));clear h7 b7 kV b8 lr lC H6
 go_wp2_with fail
 rw [HV8.out,<-HG7.out];refine (aU 3 V8).mono ?_;rintro e w9 ⟨c3,l3,rfl,h9,b9⟩;obtain ⟨Va,kp⟩:=ab (w9.alloc (.cells [Value.int .i64 1,.slice c3 1 l3,.int .i64 0,.slice none 0 0].toArray 74));have ba:Below w9.heap.size w9 Va:=by rw [kp];exact af _ _
 have hra:HeldE cellE (fun _=>True) Va (.slice (some ⟨w9.heap.size,0,none⟩) 2 2) [(1,[3]),(0,[])]:=by
  rw [kp];refine (OwnE.lit (Z:=fun _=>True) (B:=0) (ty:=74) w9 cellE [[.int .i64 1,.slice c3 1 l3],[.int .i64 0,.slice none 0 0]] [(1,[3]),(0,[])] 2 rfl rfl (Nat.zero_le _) (by decide) (fun i hi=>?_) _ rfl).held (fun _ _ _=>trivial)
  match i,hi with
  | 0,_=>exact cell_rep.2 ⟨_,rfl,h9⟩
  | 1,_=>exact cell_rep.2 ⟨_,rfl,HeldE.nil _ _ _⟩
 have sa:Va.heap.size=w9.heap.size+1:=by rw [kp];exact Array.size_push _
 obtain ⟨Vb,la⟩:=ab (Va.alloc (.cells [Value.slice (some ⟨g7,0,none⟩) 2 2,.bool true,.slice (some ⟨w9.heap.size,0,none⟩) 2 2,.bool false].toArray 30));have bb:Below Va.heap.size Va Vb:=by rw [la];exact af _ _
 have ls:HeldE lineE (fun _=>True) Vb (.slice (some ⟨Va.heap.size,0,none⟩) 2 2) x51:=by
  rw [la];refine (OwnE.lit (Z:=fun _=>True) (B:=0) (ty:=30) Va lineE [[.slice (some ⟨g7,0,none⟩) 2 2,.bool true],[.slice (some ⟨w9.heap.size,0,none⟩) 2 2,.bool false]] x51 2 rfl rfl (Nat.zero_le _) (by decide) (fun i hi=>?_) _ rfl).held (fun _ _ _=>trivial)
  match i,hi with
  | 0,_=>exact line_rep.2 ⟨_,rfl,(HR8.out.below b9).below ba⟩
  | 1,_=>exact line_rep.2 ⟨_,rfl,hra⟩
 rw [sa] at ls;have hu:=((HU.out.below b9).below ba).below bb;obtain ⟨uo,uc,eu⟩:=hu.len;have HS:=aa (c5 _ _ u _ x51 x51 Vb hu ls);rw [cZ] at HS;have HB:=aa (lx.out.trans ((b9.trans ((ba.trans (bb.mono ba.size)).mono b9.size)).mono lx.out.size));have HVB:=aa (show (w9.alloc (.cells #[Value.int .i64 1,.slice c3 1 l3,.int .i64 0,.slice none 0 0] 74)).alloc (.cells #[Value.slice (some ⟨g7,0,none⟩) 2 2,.bool true,.slice (some ⟨w9.heap.size,0,none⟩) 2 2,.bool false] 30)=Vb from by rw [la,kp]);clear h9 b9 kp ba hra sa la bb ls hu eu HU HR8 HG7 HV8 lx
 go_wp2_with fail
 rw [HVB.out];refine HS.out.mono ?_;rintro e wf ⟨rfl,bf⟩;have HF:=aa (HB.out.trans (bf.mono HB.out.size));clear bf;go_wp2;go_ret;exact ⟨ae,HF.out⟩
end Go.Proofs.YthdphijabffpiaaDoor
