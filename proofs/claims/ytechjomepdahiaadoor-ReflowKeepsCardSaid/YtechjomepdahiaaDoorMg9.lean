import Derived.Test.YtechjomepdahiaaDoorZ0
import Derived.Test.YtechjomepdahiaaDoorRflE
import Derived.Test.YtechjomepdahiaaDoorMg2
import Derived.Test.YtechjomepdahiaaDoorGrdR
import Derived.Test.YtechjomepdahiaaDoorCellP
import Derived.Test.YtechjomepdahiaaDoorMg1
import Derived.Lib.MinMax
import Derived.Deep.Cut
import Derived.Test.YtechjomepdahiaaDoorMg7
set_option maxRecDepth 100000
set_option linter.unusedVariables false
set_option linter.unusedSimpArgs false
set_option maxHeartbeats 3000000
namespace Go.Proofs.YtechjomepdahiaaDoor
open Go.RowKit Go.ChangeShapes Go.WideShapes
theorem et{L:List Cl}(h:aj L=true):∀ c ∈ al L,ap c=true:=(dN L.length L (Nat.le_refl _) h).1
theorem cj(Ls:List Ln)(hs:∀ k,k<Ls.length->aj (Ls.getD k zl).1=true):∀ k,k<=Ls.length->(∀ X ∈ (aB Ls k).1,∀ c ∈ X,ap c=true)/\∀ c ∈ (aB Ls k).2,ap c=true
 |0=>fun _=>⟨fun X h=>absurd h List.not_mem_nil,fun c h=>absurd h List.not_mem_nil⟩
 |k+1=>fun hk=>by
  obtain ⟨h1,h2⟩:=cj Ls hs k (by omega);have hp:∀ c ∈ (aB Ls k).2++aO Ls k,ap c=true:=by
   intro c hc
   rcases List.mem_append.1 hc with hc | hc
   ·exact h2 c hc
   ·exact et (cz _ (hs k (by omega))) c hc
  unfold aB
  split
  ·exact ⟨h1,hp⟩
  ·refine ⟨fun X hX=>?_,fun c h=>absurd h List.not_mem_nil⟩
   rcases List.mem_append.1 hX with hX | hX
   ·exact h1 X hX
   ·rw [List.mem_singleton.1 hX];exact hp
theorem cZ(Ls:List Ln):∀ k,(aB Ls k).1.flatten.length+(aB Ls k).2.length<=aV Ls k
 |0=>Nat.le_refl _
 |k+1=>by
  have ih:=cZ Ls k;have hp:=cA Ls k;unfold aB aV
  split
  ·rw [List.length_append];show (aB Ls k).1.flatten.length+_<=_;omega
  ·rw [List.flatten_append,List.length_append];show (aB Ls k).1.flatten.length+(((aB Ls k).2++aO Ls k)++[]).length+0<=_;rw [List.append_nil,List.length_append];omega
theorem cw(wd:Nat)(X:List Cl)(h:1<=wd):(aE wd X).length<=X.length+1:=by
 unfold aE;have:=(bw wd X h X.length).2;rw [List.length_append];show _+1<=_;omega
theorem dx(wd:Nat)(h:1<=wd):∀ A:List (List Cl),(A.flatMap (aE wd)).length<=A.flatten.length+A.length
 |[]=>Nat.le_refl _
 |X :: A=>by
  have ih:=dx wd h A;have h1:=cw wd X h;rw [List.flatMap_cons,List.length_append,List.flatten_cons,List.length_append,List.length_cons];omega
theorem cy{α:Type}:∀ (A:List (List α)) (i:Nat),(A.getD i []).length<=A.flatten.length
 | [],i=>Nat.zero_le _
 | X :: A,0=>by rw [List.flatten_cons,List.length_append];show X.length<=_;omega
 | X :: A,i+1=>by rw [List.flatten_cons,List.length_append];have:=cy A i;show (A.getD i []).length<=_;omega
theorem bN{α:Type}:∀ (A:List (List α)) (i:Nat),(A.take i).flatten.length<=A.flatten.length
 | [],i=>by simp
 | X :: A,0=>by simp
 | X :: A,i+1=>by rw [List.take_succ_cons,List.flatten_cons,List.flatten_cons,List.length_append,List.length_append];have:=bN A i;omega
def bn(wd:Nat)(Ls:List Ln):List Ln:=(bC Ls).flatMap (aE wd)
theorem bK{Z:ai}{w:World}{ao:Option Addr}{n cap:Nat}{L:List (List Cl)}(h:HeldE cellsE Z w (.slice ao n cap) L):n=L.length/\n<=cap/\∀ i,i<L.length->∃ b off u,ao=some ⟨b,off,none⟩/\b<w.heap.size/\w.cell? ⟨b,off+i,none⟩=some u/\HeldE cellE Z w u (L.getD i []):=by
 obtain ⟨h1,h2,h3⟩:=h.spots;refine ⟨h1,h2,fun i hi=>?_⟩;obtain ⟨b,off,rfl,hb,hz,C,hC,u,rfl,hr⟩:=h3 i hi;have hc:=hC 0 (by decide);rw [show off+i * cellsE.size+0=off+i from by show off+i * 1+0=_;omega] at hc;exact ⟨b,off,u,rfl,hb,hc,hr⟩
theorem bY(v:Value)(Ls:List Ln)(w0:Int)(w:World)(hv:HeldE lineE (fun b=>b<w.heap.size) w v Ls)(hl:Ls.length<=100000)(ht:aV Ls Ls.length<=100000)(hs:∀ k,k<Ls.length->aj (Ls.getD k zl).1=true):Calls Tryd.prog 12 #[v,.int .i64 w0] w (fun e w'=>∃ u,e=.returned (.tuple #[u,.nilIface])/\OwnE lineE (fun b=>w.heap.size<=b) w' w.heap.size 69 u (bn (wdN w0) Ls)/\Below w.heap.size w w'):=by
 have HL:=aa (en v Ls w hv (by omega) (by omega) hs);obtain ⟨A,hA⟩:=ab (bC Ls);have hAR:∀ X ∈ A,∀ c ∈ X,ap c=true:=by rw [hA];exact (cj Ls hs _ (Nat.le_refl _)).1
 have hAS:A.flatten.length<=100000:=by rw [hA];have:=cZ Ls Ls.length;unfold bC;omega
 have hAL:A.length<=100000:=by rw [hA];have:=(cB Ls Ls.length).1;unfold bC;omega
 have HAR:=aa hAR;have HAS:=aa hAS;have gq:1<=wdN w0:=by unfold wdN;omega
 have HWD:=aa gq;obtain ⟨wd,hwd⟩:=ab (wdN w0);have HW:=aa hwd;have HE:=aa (show bn (wdN w0) Ls=A.flatMap (aE wd) from by unfold bn;rw [hA,hwd]);rw [<-hA] at HL;rw [HE.out];clear hA hAR hAS hs hv gq hwd HE
 go_enter Tryd.func12,Tryd.ntmps12
 go_upto_region 1 with (fail)
 go_wp2_with fail
 refine (HL.out).mono ?_;rintro e w1 ⟨av,rfl,hao,b1⟩;have jU:=hao.held (fun _ _ _=>trivial);obtain ⟨ao,ac,eav⟩:=jU.len;subst eav;obtain ⟨_,hac,hat⟩:=bK jU;have HAT:=aa hat;obtain ⟨m,hm⟩:=ab (A.length);have HM:=aa hm;rw [<-hm] at hac hAL ⊢;have fA:=aa b1;clear hao jU hat hm b1;go_wp2
 go_loopw [8,23] (fun lv iv wr=>∃ i:Nat,i<=m/\iv=.int .i64 i/\OwnE lineE (fun b=>w.heap.size<=b) wr w1.heap.size 69 lv ((A.take i).flatMap (aE wd))/\Below w1.heap.size w1 wr) (fun _ iv _=>m - (intOf iv).toNat)
 case atStart=>exact ⟨0,Nat.zero_le _,rfl,OwnE.nil _ _ _ _ _,Below.refl _ _⟩
 case round =>
  obtain ⟨i,hi,rfl,ho,hb⟩:=hrel;obtain ⟨wo,hU⟩:=ab (wr);subst hU;have HO:=aa ho;have HB:=aa hb;clear ho hb
  by_cases him:i<m
  ·have d1:(i:Int)<(m:Int):=by omega
   obtain ⟨b,off,u,e0,hb,c0,hh⟩:=HAT.out i (by rw [<-HM.out];exact him);subst e0;obtain ⟨X,hX⟩:=ab (A.getD i []);have jW:X.length<=100000:=by rw [hX];exact Nat.le_trans (cy A i) HAS.out
   have hxr:∀ k,k<X.length->ap (X.getD k zc)=true:=by
    intro k hk;have hia:i<A.length:=by rw [<-HM.out];exact him
    have h1:X ∈ A:=by
     rw [hX,show A.getD i []=A[i] from by simp [List.getD,List.getElem?_eq_getElem hia]];exact List.getElem_mem _
    refine HAR.out X h1 _ ?_;rw [show X.getD k zc=X[k] from by simp [List.getD,List.getElem?_eq_getElem hk]];exact List.getElem_mem _
   rw [<-hX] at hh;have HX:=aa (show (A.take (i+1)).flatMap (aE wd)=(A.take i).flatMap (aE wd)++aE wd X from by
    have:i<A.length:=by rw [<-HM.out];exact him
    rw [List.take_succ_eq_append_getElem this,List.flatMap_append,hX,show A.getD i []=A[i] from by simp [List.getD,List.getElem?_eq_getElem this]]
    simp)
   have HN:=aa (show ((A.take i).flatMap (aE wd)).length<=200000/\(aE wd X).length<=200000 from by
    have hw1:1<=wd:=by rw [HW.out];exact HWD.out
    have h1:=dx wd hw1 (A.take i);have h2:=bN A i;have h3:=HAS.out;have h4:=cw wd X hw1;have h5:=HM.out;rw [List.length_take] at h1;omega)
   have c0:=(HB.out.cell (p:=⟨b,off+i,none⟩) hb).trans c0;have HK:=aa (dA u X w0 wo ((hh.below HB.out).lower) (by omega) hxr);rw [<-HW.out] at HK;have hic:i<ac:=by omega
   clear hX hh hxr hb
   go_wp2_with fail
   refine HK.out.mono ?_;rintro e w3 ⟨bv,rfl,ig,b3⟩;have hX:=(ig.held (fun b h _=>h)).zone (Y:=fun b=>w.heap.size<=b/\u8.ownBlock≠some b) (fun b _ hz=>⟨Nat.le_trans fA.out.size (Nat.le_trans HB.out.size hz),fun e=>by have:=(HO.out.lt b e).2;omega⟩);have HX3:=aa hX;have jF:=aa (HO.out.below b3);have gE:=aa (HB.out.trans (b3.mono HB.out.size));have gY:=aa gE.out.size;clear hX ig b3 c0 HK HO
   go_wp2_with (at_builtin;refine an (E:=lineE) (Z:=fun b=>w.heap.size<=b) rfl (.tmp 36) (.tmp 37) 29 rfl (.agg #[.slice none 0 0,.bool false]) 32 Tryd.underlying29 cC rfl (by decide) rfl rfl jF.out HX3.out (by have:=HN.out;omega) (by have:=HN.out;omega) gY.out ?_)
   intro v4 w4 iC hb4 hk4 _;have HF:=aa (And.intro (show OwnE lineE (fun b=>w.heap.size<=b) w4 w1.heap.size 69 v4 ((A.take (i+1)).flatMap (aE wd)) from by rw [HX.out];exact iC) (gE.out.trans hb4));clear iC hb4 hk4;go_wp2
   go_roundw
   case rel=>exact ⟨i+1,by omega,by go_num,HF.out⟩
   case measure=>simp [intOf] <;> omega
  ·obtain rfl:i=m:=by omega
   have d1:¬ (i:Int)<(i:Int):=by omega
   have HF:=aa (And.intro (show OwnE lineE (fun b=>w.heap.size<=b) wo w.heap.size 69 u8 (A.flatMap (aE wd)) from by
    have h:=HO.out;rw [HM.out,List.take_length] at h;exact h.base fA.out.size) (fA.out.trans (HB.out.mono fA.out.size)))
   clear HO HB;go_wp2;exact bodyPost_ret (v:=.tuple #[u8,.nilIface]) (by simp [results,Tryd.results12,go_sem]) rfl ⟨u8,rfl,HF.out.1,HF.out.2⟩
theorem aW(r:Int)(w:World):Calls Tryd.prog 38 #[.int .i32 r] w (fun e w'=>∃ a k,e=.returned (.agg #[.int .i64 1,.slice a 1 k])/\HeldE (bj .i32) (fun _=>True) w' (.slice a 1 k) [r]/\Below w.heap.size w w'):=by
 obtain ⟨Wa,gI⟩:=ab (w.alloc (.cells [Value.int .i64 0,.slice none 0 0].toArray 85));obtain ⟨Wb,iX⟩:=ab (Wa.alloc (.cells [Value.int .i32 r].toArray 21));have ba:Below w.heap.size w Wa:=by rw [gI];exact af _ _
 have bb:Below Wa.heap.size Wa Wb:=by rw [iX];exact af _ _
 have sa':Wa.heap.size=w.heap.size+1:=by rw [gI];exact Array.size_push _
 have ga:Has Wa w.heap.size [.int .i64 0,.slice none 0 0] 85:=by rw [gI];exact Has.new w _ _
 have ht:HeldE (bj .i32) (fun b=>b≠w.heap.size) Wb (.slice (some ⟨Wa.heap.size,0,none⟩) 1 1) [r]:=by rw [iX];exact aI (Y:=fun _=>False) [.int .i32 r] r rfl (fun _ _ h=>h.elim) (by omega)
 have ga:=Has.below ga bb ga.lt;rw [sa'] at ht;have HA:=aa ga;have HT:=aa ht;have HB:=aa (ba.trans (bb.mono ba.size));have HW:=aa (show (w.alloc (.cells #[Value.int .i64 0,.slice none 0 0] 85)).alloc (.cells #[Value.int .i32 r] 21)=Wb from by rw [iX,gI]);clear gI iX ba bb sa' ga ht;obtain ⟨g,hg⟩:=ab (w.heap.size);have HG:=aa hg;rw [<-hg] at HA HT;clear hg
 go_enter Tryd.func38,Tryd.ntmps38
 go_wp2_with (rw [HW.out,<-HG.out];refine ce rfl 85 (.tmp 2) (.tmp 5) rfl g rfl 85 [.int .i64 0,.slice none 0 0] [.int .i64 1,.slice (some ⟨g+1,0,none⟩) 1 1] 2 rfl HA.out (by kernel_rfl) rfl rfl (by intro v hv;simp at hv;rcases hv with rfl | rfl <;> rfl) ?_;intro w5 h5 b5;have HF:=aa (And.intro h5 (And.intro (HT.out.kept (KeepZ.but b5)) (HB.out.trans (b5.below HB.out.size (by have:=HG.out;omega)))));clear h5 b5)
 exact bodyPost_ret (v:=.agg [Value.int .i64 1,.slice (some ⟨g+1,0,none⟩) 1 1].toArray) (cp Tryd.results38 _ _ g 85 _ _ 2 rfl HF.out.1 Tryd.underlying85 rfl (by kernel_rfl) rfl) rfl ⟨_,_,rfl,HF.out.2.1.zone (fun _ _ _=>trivial),HF.out.2.2⟩
def w51:List Ln:=[([(1,[1]),(1,[2]),(1,[3])],false)]
def x51:List Ln:=[([(1,[1]),(1,[2])],true),([(1,[3]),(0,[])],false)]
theorem bm(w:World):Calls Tryd.prog 9 #[] w (Yes w):=by
 go_enter Tryd.func9,Tryd.ntmps9
 go_wp2_with fail
 refine (aW 1 _).mono ?_;rintro e w1 ⟨a1,k1,rfl,h1,b1⟩;have H1:=aa h1;have B1:=aa b1;clear h1 b1
 go_wp2_with fail
 refine (aW 2 _).mono ?_;rintro e w2 ⟨a2,k2,rfl,h2,b2⟩;have B2:=aa (B1.out.trans (b2.mono B1.out.size));have H1:=aa (H1.out.below b2);have H2:=aa h2;clear h2 b2
 go_wp2_with fail
 refine (aW 3 _).mono ?_;rintro e w3 ⟨a3,k3,rfl,h3,b3⟩;have B3:=aa (B2.out.trans (b3.mono B2.out.size));obtain ⟨V3,iU⟩:=ab (w3.alloc (.cells [Value.int .i64 1,.slice a1 1 k1,.int .i64 1,.slice a2 1 k2,.int .i64 1,.slice a3 1 k3].toArray 85));have b4:Below w3.heap.size w3 V3:=by rw [iU];exact af _ _
 have hr:HeldE cellE (fun _=>True) V3 (.slice (some ⟨w3.heap.size,0,none⟩) 3 3) [(1,[1]),(1,[2]),(1,[3])]:=by
  rw [iU];refine (OwnE.lit (Z:=fun _=>True) (B:=0) (ty:=85) w3 cellE [[.int .i64 1,.slice a1 1 k1],[.int .i64 1,.slice a2 1 k2],[.int .i64 1,.slice a3 1 k3]] [(1,[1]),(1,[2]),(1,[3])] 3 rfl rfl (Nat.zero_le _) (by decide) (fun i hi=>?_) _ rfl).held (fun _ _ _=>trivial)
  match i,hi with
  | 0,_=>exact cell_rep.2 ⟨_,rfl,H1.out.below b3⟩
  | 1,_=>exact cell_rep.2 ⟨_,rfl,H2.out.below b3⟩
  | 2,_=>exact cell_rep.2 ⟨_,rfl,h3⟩
 obtain ⟨V4,jf⟩:=ab (V3.alloc (.cells [Value.slice (some ⟨w3.heap.size,0,none⟩) 3 3,.bool false].toArray 69));have b5:Below V3.heap.size V3 V4:=by rw [jf];exact af _ _
 have hl:HeldE lineE (fun b=>b<V4.heap.size) V4 (.slice (some ⟨V3.heap.size,0,none⟩) 1 1) w51:=by
  have h:=aI (E:=lineE) (w:=V3) (ty:=69) (Y:=fun _=>True) (Z:=fun _=>True) [.slice (some ⟨w3.heap.size,0,none⟩) 3 3,.bool false] ([(1,[1]),(1,[2]),(1,[3])],false) (line_rep.2 ⟨_,rfl,hr⟩) (fun _ _ _=>trivial) trivial;rw [<-jf] at h;exact h.lower
 have s3:V3.heap.size=w3.heap.size+1:=by rw [iU];exact Array.size_push _
 rw [s3] at hl;have HL:=aa (bY _ w51 2 V4 hl (by decide) (by decide) (fun k hk=>by match k,hk with | 0,_=>decide));rw [show bn (wdN 2) w51=x51 from by decide +kernel] at HL;have gd:=aa (B3.out.trans ((b4.trans (b5.mono b4.size)).mono B3.out.size));have HV:=aa (show (w3.alloc (.cells #[Value.int .i64 1,.slice a1 1 k1,.int .i64 1,.slice a2 1 k2,.int .i64 1,.slice a3 1 k3] 85)).alloc (.cells #[Value.slice (some ⟨w3.heap.size,0,none⟩) 3 3,.bool false] 69)=V4 from by rw [jf,iU]);clear h3 b3 iU b4 hr jf b5 hl s3 H1 H2 B1 B2 B3
 go_wp2_with fail
 rw [HV.out];refine HL.out.mono ?_;rintro e w5 ⟨u,rfl,ho,b5⟩;have HU:=aa (ho.held (Z:=fun b=>V4.heap.size<=b) (fun b h _=>h));have gB:=aa (gd.out.trans (b5.mono gd.out.size));clear ho b5 HL HV gd
 go_wp2_with fail
 refine (aW 1 _).mono ?_;rintro e w6 ⟨c1,l1,rfl,h6,b6⟩;have H6:=aa h6;have HU:=aa (HU.out.below b6);have gT:=aa (gB.out.trans (b6.mono gB.out.size));clear h6 b6
 go_wp2_with fail
 refine (aW 2 _).mono ?_;rintro e w7 ⟨c2,l2,rfl,h7,b7⟩;have H6:=aa (H6.out.below b7);have HU:=aa (HU.out.below b7);have ip:=aa (gT.out.trans (b7.mono gT.out.size));obtain ⟨V8,jk⟩:=ab (w7.alloc (.cells [Value.int .i64 1,.slice c1 1 l1,.int .i64 1,.slice c2 1 l2].toArray 85));have b8:Below w7.heap.size w7 V8:=by rw [jk];exact af _ _
 have jK:HeldE cellE (fun _=>True) V8 (.slice (some ⟨w7.heap.size,0,none⟩) 2 2) [(1,[1]),(1,[2])]:=by
  rw [jk];refine (OwnE.lit (Z:=fun _=>True) (B:=0) (ty:=85) w7 cellE [[.int .i64 1,.slice c1 1 l1],[.int .i64 1,.slice c2 1 l2]] [(1,[1]),(1,[2])] 2 rfl rfl (Nat.zero_le _) (by decide) (fun i hi=>?_) _ rfl).held (fun _ _ _=>trivial)
  match i,hi with
  | 0,_=>exact cell_rep.2 ⟨_,rfl,H6.out⟩
  | 1,_=>exact cell_rep.2 ⟨_,rfl,h7⟩
 have HV8:=aa (show w7.alloc (.cells #[Value.int .i64 1,.slice c1 1 l1,.int .i64 1,.slice c2 1 l2] 85)=V8 from by rw [jk]);obtain ⟨g7,jS⟩:=ab (w7.heap.size);rw [<-jS] at jK;have HG7:=aa jS;have HR8:=aa jK;have HU:=aa (HU.out.below b8);have ju:=aa (ip.out.trans (b8.mono ip.out.size));clear h7 b7 jk b8 jK jS H6
 go_wp2_with fail
 rw [HV8.out,<-HG7.out];refine (aW 3 V8).mono ?_;rintro e w9 ⟨c3,l3,rfl,h9,b9⟩;obtain ⟨Va,iQ⟩:=ab (w9.alloc (.cells [Value.int .i64 1,.slice c3 1 l3,.int .i64 0,.slice none 0 0].toArray 85));have ba:Below w9.heap.size w9 Va:=by rw [iQ];exact af _ _
 have hra:HeldE cellE (fun _=>True) Va (.slice (some ⟨w9.heap.size,0,none⟩) 2 2) [(1,[3]),(0,[])]:=by
  rw [iQ];refine (OwnE.lit (Z:=fun _=>True) (B:=0) (ty:=85) w9 cellE [[.int .i64 1,.slice c3 1 l3],[.int .i64 0,.slice none 0 0]] [(1,[3]),(0,[])] 2 rfl rfl (Nat.zero_le _) (by decide) (fun i hi=>?_) _ rfl).held (fun _ _ _=>trivial)
  match i,hi with
  | 0,_=>exact cell_rep.2 ⟨_,rfl,h9⟩
  | 1,_=>exact cell_rep.2 ⟨_,rfl,HeldE.nil _ _ _⟩
 have sa:Va.heap.size=w9.heap.size+1:=by rw [iQ];exact Array.size_push _
 obtain ⟨Vb,je⟩:=ab (Va.alloc (.cells [Value.slice (some ⟨g7,0,none⟩) 2 2,.bool true,.slice (some ⟨w9.heap.size,0,none⟩) 2 2,.bool false].toArray 69));have bb:Below Va.heap.size Va Vb:=by rw [je];exact af _ _
 have ik:HeldE lineE (fun _=>True) Vb (.slice (some ⟨Va.heap.size,0,none⟩) 2 2) x51:=by
  rw [je];refine (OwnE.lit (Z:=fun _=>True) (B:=0) (ty:=69) Va lineE [[.slice (some ⟨g7,0,none⟩) 2 2,.bool true],[.slice (some ⟨w9.heap.size,0,none⟩) 2 2,.bool false]] x51 2 rfl rfl (Nat.zero_le _) (by decide) (fun i hi=>?_) _ rfl).held (fun _ _ _=>trivial)
  match i,hi with
  | 0,_=>exact line_rep.2 ⟨_,rfl,(HR8.out.below b9).below ba⟩
  | 1,_=>exact line_rep.2 ⟨_,rfl,hra⟩
 rw [sa] at ik;have hu:=((HU.out.below b9).below ba).below bb;obtain ⟨uo,uc,eu⟩:=hu.len;have HS:=aa (cO _ _ u _ x51 x51 Vb hu ik);rw [cN] at HS;have HB:=aa (ju.out.trans ((b9.trans ((ba.trans (bb.mono ba.size)).mono b9.size)).mono ju.out.size));have HVB:=aa (show (w9.alloc (.cells #[Value.int .i64 1,.slice c3 1 l3,.int .i64 0,.slice none 0 0] 85)).alloc (.cells #[Value.slice (some ⟨g7,0,none⟩) 2 2,.bool true,.slice (some ⟨w9.heap.size,0,none⟩) 2 2,.bool false] 69)=Vb from by rw [je,iQ]);clear h9 b9 iQ ba hra sa je bb ik hu eu HU HR8 HG7 HV8 ju
 go_wp2_with fail
 rw [HVB.out];refine HS.out.mono ?_;rintro e wf ⟨rfl,bf⟩;have HF:=aa (HB.out.trans (bf.mono HB.out.size));clear bf;go_wp2;go_ret;exact ⟨ae,HF.out⟩
theorem er{Q:List Cl}(hr:∀ c ∈ Q,ap c=true/\0<c.2.length)(hq:Q≠[]):0<(aq Q).length/\((aq Q).getD ((aq Q).length - 1) zc).1≠0:=by
 obtain ⟨R,c,rfl⟩ : ∃ R c,Q=R++[c]:=⟨Q.dropLast,Q.getLast hq,(List.dropLast_concat_getLast hq).symm⟩;obtain ⟨h1,h2⟩:=hr c (by simp);have hs:aq (R++[c])=aq R++ofC c.1 c.2:=by unfold aq;simp
 rw [hs]
 rcases cP h1 with ⟨h,_⟩ | ⟨e,_,_,h⟩ | ⟨e,_,_,h⟩
 ·rw [h] at h2;exact absurd h2 (Nat.lt_irrefl _)
 ·rw [h,List.length_append,List.length_singleton];refine ⟨by omega,?_⟩;rw [aC,if_neg (by omega),show (aq R).length+1 - 1 - (aq R).length=0 by omega];show (1:Int)≠0
  decide
 ·rw [h,List.length_append];show 0<(aq R).length+2/\_;refine ⟨by omega,?_⟩;rw [aC,if_neg (by show ¬ (aq R).length+2 - 1<_;omega),show (aq R).length+[(2,c.2),((3:Int),([]:List Int))].length - 1 - (aq R).length=1 by show _+2 - 1 - _=1;omega];show (3:Int)≠0
  decide
theorem bJ(C:List Cl)(m:Nat):∀ j,j<=m->aH (C++List.replicate m zc) (C.length+j)=aH (C++List.replicate m zc) C.length
 |0=>fun _=>rfl
 |j+1=>fun hj=>by
  rw [<-Nat.add_assoc];show (if ((C++List.replicate m zc).getD (C.length+j) zc).1=0 then aH (C++List.replicate m zc) (C.length+j) else C.length+j+1)=_;rw [if_pos (by rw [aC,if_neg (by omega),dk])];exact bJ C m j (by omega)
theorem ek(C:List Cl)(m:Nat)(h:C=[]\/(C.getD (C.length - 1) zc).1≠0):dO (C++List.replicate m zc)=C.length:=by
 unfold dO;rw [List.length_append,List.length_replicate,bJ C m m (Nat.le_refl _)]
 rcases h with rfl | h
 ·rfl
 ·cases hl:C.length with
  |zero=>rfl
  |succ k =>
   rw [hl,Nat.add_sub_cancel] at h;unfold aH;rw [if_neg (by rw [aC,if_pos (by omega)];exact h)]
theorem el(C:List Cl)(w:Nat)(hw:2<=w)(h1:w - 1<=C.length)(h2:C.length<=w)(h:(C.getD (C.length - 1) zc).1≠0):aL (C++List.replicate (w - C.length) zc) true=C.length:=by
 unfold aL;rw [if_pos rfl,List.length_append,List.length_replicate]
 by_cases e:C.length=w
 ·rw [show w - C.length=0 by omega,List.replicate_zero,List.append_nil,Nat.add_zero,if_neg h]
 ·rw [show w - C.length=1 by omega,if_pos (by rw [aC,if_neg (by omega),dk])];omega
theorem dl(C:List Cl)(m:Nat):(C++List.replicate m zc).take C.length=C:=by
 rw [List.take_left']
 rfl
theorem cU{Q:List Cl}(hr:∀ c ∈ Q,ap c=true/\0<c.2.length):al (aq Q)=Q:=by
 have h:=(di Q (fun k hk=>(hr _ (by rw [List.getD_eq_getElem?_getD,List.getElem?_eq_getElem hk];exact List.getElem_mem hk)).1) Q.length (Nat.le_refl _)).2.1;rw [List.take_length] at h;exact h
def es(l:Ln):List Cl:=al (l.1.take (aL l.1 true))
theorem dm(w:Nat)(X:List Cl)(hw:2<=w)(hr:∀ c ∈ X,ap c=true/\0<c.2.length):∀ k,k<=X.length->(∀ l ∈ (aG w X k).1,l.2=true)/\∃ Q,(aG w X k).2=aq Q/\(aG w X k).1.flatMap es++Q=X.take k/\(0<k->Q≠[])
 |0=>fun _=>⟨fun l hl=>absurd hl List.not_mem_nil,[],rfl,by simp [aG],fun h=>absurd h (Nat.lt_irrefl _)⟩
 |k+1=>fun hk=>by
  obtain ⟨h1,Q,h2,h3,h0⟩:=dm w X hw hr k (by omega);have hc:=(bw w X (by omega) k).1;have hkX:k<X.length:=hk;have hx:X.getD k zc=X[k]:=by simp [List.getD,List.getElem?_eq_getElem hkX]
  have j1:X.take (k+1)=X.take k++[X.getD k zc]:=by rw [List.take_succ_eq_append_getElem hkX,hx]
  have hq:∀ c ∈ Q,ap c=true/\0<c.2.length:=fun c hc=>hr c (List.mem_of_mem_take (by rw [<-h3];exact List.mem_append.2 (.inr hc)))
  have hl:=dR (X.getD k zc).1 (X.getD k zc).2;have hst:aF w (X.getD k zc)=aq [X.getD k zc]:=by
   unfold aF aq;rw [if_neg (by omega)]
   simp
  have hsl:(aq [X.getD k zc]).length<=2:=by unfold aq;simpa using hl.2
  unfold aG;rw [hst]
  by_cases hf:w<(aG w X k).2.length+(aq [X.getD k zc]).length
  ·rw [if_pos hf];have gK:Q≠[]:=h0 (by
    rcases Nat.eq_zero_or_pos k with e | e
    ·subst e;exfalso;have:(aG w X 0).2.length=0:=rfl;omega
    ·exact e)
   obtain ⟨n1,n2⟩:=er hq gK;rw [h2] at hf hc;refine ⟨fun l hl=>?_,[X.getD k zc],rfl,?_,fun _=>by simp⟩
   ·rcases List.mem_append.1 hl with hl | hl
    ·exact h1 l hl
    ·rw [List.mem_singleton.1 hl];rfl
   ·have iT:es (aP w (aG w X k).2 true)=Q:=by
     unfold es aP;simp only;rw [h2,el _ w hw (by omega) hc n2,dl];exact cU hq
    rw [List.flatMap_append,List.flatMap_singleton,iT,h3,j1]
  ·rw [if_neg hf];refine ⟨h1,Q++[X.getD k zc],?_,by rw [<-List.append_assoc,h3,j1],fun _=>by simp⟩;rw [h2];unfold aq
   simp
theorem cq(Ls:List Ln)(z:Ln)(h:∀ l ∈ Ls,l.2=true):∀ i,i<=Ls.length->aB (Ls++[z]) i=([],(Ls.take i).flatMap es)
 |0=>fun _=>by simp [aB]
 |i+1=>fun hi=>by
  have ih:=cq Ls z h i (by omega);have gF:i<Ls.length:=hi;have hx:Ls.getD i zl=Ls[i]:=by simp [List.getD,List.getElem?_eq_getElem gF]
  have hg:(Ls++[z]).getD i zl=Ls.getD i zl:=by rw [aC,if_pos gF]
  have hgo:bO (Ls++[z]) i=true:=by
   unfold bO;rw [hg,hx,h _ (List.getElem_mem _),List.length_append,List.length_singleton,decide_eq_true (by omega)]
   rfl
  unfold aB;rw [if_pos hgo,ih];show ([],_++aO (Ls++[z]) i)=_;unfold aO;rw [hg,hgo,List.take_succ_eq_append_getElem gF,List.flatMap_append,List.flatMap_singleton,<-hx]
  rfl
theorem dP(w:Nat)(X:List Cl)(hw:2<=w)(hr:∀ c ∈ X,ap c=true/\0<c.2.length):bC (aE w X)=[X]:=by
 obtain ⟨h1,Q,h2,h3,h0⟩:=dm w X hw hr X.length (Nat.le_refl _);rw [List.take_length] at h3;have hq:∀ c ∈ Q,ap c=true/\0<c.2.length:=fun c hc=>hr c (by rw [<-h3];exact List.mem_append.2 (.inr hc))
 unfold aE bC;obtain ⟨Ls,jp⟩:=ab ((aG w X X.length).1);rw [<-jp] at h1 h3 ⊢;rw [List.length_append,List.length_singleton];have hw2:=cq Ls (aP w (aG w X X.length).2 false) h1 Ls.length (Nat.le_refl _);have hz:(Ls++[aP w (aG w X X.length).2 false]).getD Ls.length zl=aP w (aG w X X.length).2 false:=by rw [aC,if_neg (Nat.lt_irrefl _),Nat.sub_self];rfl
 have hgo:bO (Ls++[aP w (aG w X X.length).2 false]) Ls.length=false:=by
  unfold bO;rw [hz]
  rfl
 unfold aB;rw [if_neg (by rw [hgo];decide),hw2,List.take_length];have hp:aO (Ls++[aP w (aG w X X.length).2 false]) Ls.length=Q:=by
  unfold aO;rw [hz,hgo];unfold aP;simp only;unfold aL;rw [if_neg (by decide),h2,ek _ _ (by
   by_cases e:Q=[]
   ·left;rw [e];rfl
   ·right;exact (er hq e).2),dl]
  exact cU hq
 rw [hp];show []++[_++Q]=[X];rw [List.nil_append,h3]
end Go.Proofs.YtechjomepdahiaaDoor
