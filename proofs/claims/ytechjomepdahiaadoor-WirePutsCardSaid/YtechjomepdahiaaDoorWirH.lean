import Derived.Test.YtechjomepdahiaaDoorZ0
import Derived.Test.YtechjomepdahiaaDoorWirG
import Derived.Test.YtechjomepdahiaaDoorMg3
import Derived.Test.YtechjomepdahiaaDoorMg5
set_option maxRecDepth 100000
set_option linter.unusedVariables false
set_option linter.unusedSimpArgs false
set_option maxHeartbeats 3000000
namespace Go.Proofs.YtechjomepdahiaaDoor
open Go.RowKit Go.ChangeShapes Go.WideShapes
theorem ja(f:List Int):∀ (d k:Nat),f.length - aK f k<=d->aK f k<=f.length->∃ K,aK f K=f.length
 |0,k=>fun h h2=>⟨k,by omega⟩
 |d+1,k=>fun h h2=>by
  by_cases e:aK f k=f.length
  ·exact ⟨k,e⟩
  ·have h1:=de f (aK f k);have h3:=gu f (aK f k) (by omega);exact ja f d (k+1) (by show f.length - (aK f k+dd f (aK f k))<=d;omega) h3
theorem kW(f:List Int):aK f (gK f)=f.length:=by
 obtain ⟨K,hK⟩:=ja f f.length 0 (by show f.length - 0<=_;omega) (Nat.zero_le _);rw [f7 hK];exact hK
def bE(xs:List Int)(bad:Bool):List Cl × List Int × Bool :=
 (if (ak 3 0 1 xs bad).1 % 2=1 then [(2,cZ (a9 ((ak 3 0 1 xs bad).1 / 2) (ak 3 0 1 xs bad).2.1 (ak 3 0 1 xs bad).2.2).1),(3,[])] else [(1,cZ (a9 ((ak 3 0 1 xs bad).1 / 2) (ak 3 0 1 xs bad).2.1 (ak 3 0 1 xs bad).2.2).1)],
  (a9 ((ak 3 0 1 xs bad).1 / 2) (ak 3 0 1 xs bad).2.1 (ak 3 0 1 xs bad).2.2).2.1,
  (a9 ((ak 3 0 1 xs bad).1 / 2) (ak 3 0 1 xs bad).2.1 (ak 3 0 1 xs bad).2.2).2.2 || !gL (a9 ((ak 3 0 1 xs bad).1 / 2) (ak 3 0 1 xs bad).2.1 (ak 3 0 1 xs bad).2.2).1)
theorem dI{xs:List Int}(bad:Bool):(az xs bad).2.1.length<=xs.length/\(aR xs->aR (az xs bad).2.1):=by
 unfold az
 split
 ·exact ⟨Nat.le_refl _,fun h=>h⟩
 ·split
  ·exact ⟨Nat.le_refl _,fun h=>h⟩
  ·exact ⟨by simp,fun h x hx=>h x (List.mem_cons_of_mem _ hx)⟩
theorem bp:∀ (f m sh:Nat) {xs:List Int} (bad:Bool),(ak f m sh xs bad).2.1.length<=xs.length
 |0,_,_,xs,_=>Nat.le_refl _
 |f+1,m,sh,xs,bad=>by
  have h1:=(dI (xs:=xs) bad).1;unfold ak
  split
  ·exact h1
  ·exact Nat.le_trans (bp f _ _ _) h1
theorem fy(n:Nat)(xs:List Int)(bad:Bool):(a9 n xs bad).1.length<=xs.length/\(a9 n xs bad).2.1.length<=xs.length/\(aR xs->aR (a9 n xs bad).1):=by
 unfold a9
 split
 ·exact ⟨Nat.zero_le _,Nat.le_refl _,fun _ x hx=>absurd hx List.not_mem_nil⟩
 ·exact ⟨by rw [List.length_take];exact Nat.min_le_right _ _,by rw [List.length_drop];exact Nat.sub_le _ _,fun h x hx=>h x (List.mem_of_mem_take hx)⟩
theorem gE(xs:List Int)(bad:Bool):1<=(bE xs bad).1.length/\(bE xs bad).1.length<=2/\(bE xs bad).2.1.length<=xs.length:=by
 refine ⟨?_,?_,Nat.le_trans (fy _ _ _).2.1 (bp 3 0 1 bad)⟩
 ·unfold bE;simp only
  split <;> simp
 ·unfold bE;simp only
  split <;> simp
theorem jc{f:List Int}(h:aR f):∀ i,i<f.length->0<=f.getD i 0/\f.getD i 0<=255:=fun i hi=>by
 rw [show f.getD i 0=f[i] from by simp [List.getD,List.getElem?_eq_getElem hi]];exact h _ (List.getElem_mem hi)
theorem fW(s0 g:Nat)(xs:List Int)(bad:Bool)(w:World)(h:RdAt s0 w g xs bad)(hl:xs.length<=1000000):Calls Tryd.prog 103 #[.pointer (some ⟨g,0,none⟩)] w (eA s0 g w (fun w' u=>OwnE cellE (fun b=>w.heap.size<=b) w' w.heap.size 85 u (bE xs bad).1) (bE xs bad).2.1 (bE xs bad).2.2):=by
 have oP:=h.lt;obtain ⟨C,hC⟩:=ab (bE xs bad);rw [<-hC];unfold bE at hC;have HN:=aa (bm s0 g xs bad w h);have mA:=cN 3 0 1 xs bad h.2.1 (by decide);have ul:=bp 3 0 1 (xs:=xs) bad;obtain ⟨n,hn⟩:=ab ((ak 3 0 1 xs bad).1);obtain ⟨x1,hx1⟩:=ab ((ak 3 0 1 xs bad).2.1);obtain ⟨b1,hb1⟩:=ab ((ak 3 0 1 xs bad).2.2);rw [<-hn,<-hx1,<-hb1] at HN hC;rw [<-hn] at mA;rw [<-hx1] at ul;have mA:n<2097152:=mA;obtain ⟨nh,tS⟩:=ab (n / 2);obtain ⟨nr,qV⟩:=ab (n % 2);rw [<-tS,<-qV] at hC;have qF:(n:Int).tdiv 2=(nh:Int):=by rw [Int.tdiv_eq_ediv_of_nonneg (by omega)];omega
 have rX:(n:Int).tmod 2=(nr:Int):=by rw [Int.tmod_eq_emod_of_nonneg (by omega)];omega
 have oe:IntKind.i64.wrap (nh:Int)=(nh:Int):=by rw [IntKind.wrap_i64];omega
 have hwr:IntKind.i64.wrap (nr:Int)=(nr:Int):=by rw [IntKind.wrap_i64];omega
 have hnh9:nh<=1048576:=by omega
 have hnr9:nr<=1:=by omega
 have ui:=aa (fun (w':World) (h':RdAt s0 w' g x1 b1)=>fz s0 g x1 b1 nh w' h' (by omega));have xE:=fy nh x1 b1;obtain ⟨F,hF⟩:=ab ((a9 nh x1 b1).1);obtain ⟨x2,hx2⟩:=ab ((a9 nh x1 b1).2.1);obtain ⟨b2,hb2⟩:=ab ((a9 nh x1 b1).2.2);rw [<-hF,<-hx2,<-hb2] at ui hC;rw [<-hF] at xE;have mD:F.length<=1000000:=by omega
 have HFB:=aa xE.2.2;obtain ⟨gd,hgd⟩:=ab (gL F);rw [<-hgd] at hC;have HGD:=aa (show (!bh F (gK F))=gd from hgd.symm);have HPE:=aa (kW F);have vT:=aa h;have HC:=aa hC;clear hn hx1 hb1 tS qV hF hx2 hb2 hgd hC xE ul mA h
 go_enter Tryd.func103,Tryd.ntmps103
 go_wp2_with fail
 refine (HN.out).mono ?_;rintro e w1 ⟨u1,rfl,rfl,hr1,oS⟩;have qW:=aa hr1;have o8:=aa oS;clear hr1 oS HN
 go_wp2_with fail
 refine (ui.out w1 qW.out).mono ?_;rintro e w2 ⟨u2,rfl,vO,hr2,ou⟩;have qB:=aa vO;have t7:=aa hr2;have HP2:=aa (o8.out.trans ou);have uh:=aa (HFB.out qW.out.2.1);have pf:fS u2:=by
  obtain ⟨ao,cap,e,hc,_⟩:=vO;rw [e];exact im hc
 have HCP:=aa pf;have xd:=aa (iV u2 F (gK F) HPE.out w2 vO.ints pf mD (jc uh.out));rw [HGD.out] at xd;clear vO hr2 ou qW o8 pf ui
 go_wp2_with fail
 refine xd.out.mono ?_;rintro e w3 ⟨rfl,b3⟩;have rp:=aa (t7.out.below b3);have HP3:=aa (HP2.out.trans (.ofBelow b3));have nn:=aa (qB.out.below b3);clear b3 xd t7 HP2 qB
 go_wp2_with fail
 refine (bF s0 g x2 b2 gd w3 rp.out).mono ?_;rintro e w4 ⟨rfl,hr4,pY⟩;have qn:=aa (nn.out.upd pY (fun b hb e=>by have:=vT.out.1;omega));have vp:=aa hr4;have HP4:=aa (HP3.out.trans pY);have sO:=aa (iU u2 F w4 qn.out.ints HCP.out mD (jc uh.out));clear hr4 pY rp HP3 nn
 go_wp2_with fail
 refine sO.out.mono ?_;rintro e w5 ⟨k5,v5,rfl,tK,qH,b5⟩;have hk:k5=gK F:=(f7 tK).symm;subst hk;have qH:OwnE (a8 .i32) (fun _=>True) w5 w4.heap.size 21 v5 (cZ F):=by
  exact ei qH
 have si:=qH.held (Z:=fun b=>w4.heap.size<=b) (fun b h _=>h);obtain ⟨to5,tc5,e5⟩:=si.len;obtain ⟨T,hT⟩:=ab (cZ F);rw [<-hT] at si e5;have o3:=aa (show C=(if nr=1 then [(2,T),(3,[])] else [(1,T)],x2,b2 || !gd) from by rw [HC.out,hT]);obtain ⟨nt,uS⟩:=ab (T.length);rw [<-uS] at e5;subst e5;have uq:=aa (si.zone (Y:=fun b=>w.heap.size<=b) (fun b _ hz=>Nat.le_trans HP4.out.size hz));have uj:=aa (vp.out.below b5);have xm:=aa (HP4.out.trans (.ofBelow b5));have wD:=aa xm.out.size;clear qH si hT uS b5 sO tK HC qn
 by_cases h1:nr=1
 ·subst h1;rw [if_pos rfl] at o3;obtain ⟨W6,pE⟩:=ab (w5.alloc (.cells [Value.int .i64 2,.slice to5 nt tc5,.int .i64 3,.slice none 0 0].toArray 85));have tm:Below w5.heap.size w5 W6:=by rw [pE];exact l7 _ _
  have pD:OwnE cellE (fun b=>w.heap.size<=b) W6 w.heap.size 85 (.slice (some ⟨w5.heap.size,0,none⟩) 2 2) [(2,T),(3,[])]:=by
   rw [pE];exact OwnE.lit (Z:=fun b=>w.heap.size<=b) (B:=w.heap.size) (ty:=85) w5 cellE [[.int .i64 2,.slice to5 nt tc5],[.int .i64 3,.slice none 0 0]] [(2,T),(3,[])] 2 rfl rfl wD.out (by decide) (fun i hi=>by
    match i,hi with
    | 0,_=>exact cell_rep.2 ⟨_,rfl,uq.out⟩
    | 1,_=>exact cell_rep.2 ⟨_,rfl,HeldE.nil _ _ _⟩) _ rfl
  have HF:=aa (And.intro pD (And.intro (uj.out.below tm) (xm.out.trans (.ofBelow tm))));have HW:=aa pE.symm;clear pE tm pD;go_wp2;rw [HW.out];go_ret;exact ⟨_,rfl,by rw [o3.out];exact HF.out.1,by rw [o3.out];exact HF.out.2.1,HF.out.2.2⟩
 ·have d1:((nr:Int) == 1)=false:=by rw [beq_eq_false_iff_ne];omega
  rw [if_neg h1] at o3;obtain ⟨W6,pE⟩:=ab (w5.alloc (.cells [Value.int .i64 1,.slice to5 nt tc5].toArray 85));have tm:Below w5.heap.size w5 W6:=by rw [pE];exact l7 _ _
  have pD:OwnE cellE (fun b=>w.heap.size<=b) W6 w.heap.size 85 (.slice (some ⟨w5.heap.size,0,none⟩) 1 1) [(1,T)]:=by
   rw [pE];exact OwnE.lit (Z:=fun b=>w.heap.size<=b) (B:=w.heap.size) (ty:=85) w5 cellE [[.int .i64 1,.slice to5 nt tc5]] [(1,T)] 1 rfl rfl wD.out (by decide) (fun i hi=>by
    match i,hi with
    | 0,_=>exact cell_rep.2 ⟨_,rfl,uq.out⟩) _ rfl
  have HF:=aa (And.intro pD (And.intro (uj.out.below tm) (xm.out.trans (.ofBelow tm))));have HW:=aa pE.symm;clear pE tm pD h1;go_wp2;rw [HW.out];go_ret;exact ⟨_,rfl,by rw [o3.out];exact HF.out.1,by rw [o3.out];exact HF.out.2.1,HF.out.2.2⟩
end Go.Proofs.YtechjomepdahiaaDoor
