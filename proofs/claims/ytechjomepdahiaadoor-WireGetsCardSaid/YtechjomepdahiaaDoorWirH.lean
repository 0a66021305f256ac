import Derived.Test.YtechjomepdahiaaDoorZ0
import Derived.Test.YtechjomepdahiaaDoorWirG
import Derived.Test.YtechjomepdahiaaDoorMg3
import Derived.Test.YtechjomepdahiaaDoorMg5
set_option maxRecDepth 100000
set_option linter.unusedVariables false
set_option linter.unusedSimpArgs false
set_option maxHeartbeats 3000000
namespace Go.Proofs.YtechjomepdahiaaDoor
open Go.RowKit Go.ChangeShapes Go.WideShapes
theorem gD(f:List Int):∀ (d k:Nat),f.length - aK f k<=d->aK f k<=f.length->∃ K,aK f K=f.length
 |0,k=>fun h h2=>⟨k,by omega⟩
 |d+1,k=>fun h h2=>by
  by_cases e:aK f k=f.length
  ·exact ⟨k,e⟩
  ·have h1:=cR f (aK f k);have h3:=fj f (aK f k) (by omega);exact gD f d (k+1) (by show f.length - (aK f k+du f (aK f k))<=d;omega) h3
theorem jg(f:List Int):aK f (fr f)=f.length:=by
 obtain ⟨K,hK⟩:=gD f f.length 0 (by show f.length - 0<=_;omega) (Nat.zero_le _);rw [gG hK];exact hK
def bF(xs:List Int)(bad:Bool):List Cl × List Int × Bool :=
 (if (ai 3 0 1 xs bad).1 % 2=1 then [(2,eY (aZ ((ai 3 0 1 xs bad).1 / 2) (ai 3 0 1 xs bad).2.1 (ai 3 0 1 xs bad).2.2).1),(3,[])] else [(1,eY (aZ ((ai 3 0 1 xs bad).1 / 2) (ai 3 0 1 xs bad).2.1 (ai 3 0 1 xs bad).2.2).1)],
  (aZ ((ai 3 0 1 xs bad).1 / 2) (ai 3 0 1 xs bad).2.1 (ai 3 0 1 xs bad).2.2).2.1,
  (aZ ((ai 3 0 1 xs bad).1 / 2) (ai 3 0 1 xs bad).2.1 (ai 3 0 1 xs bad).2.2).2.2 || !jE (aZ ((ai 3 0 1 xs bad).1 / 2) (ai 3 0 1 xs bad).2.1 (ai 3 0 1 xs bad).2.2).1)
theorem dh{xs:List Int}(bad:Bool):(aw xs bad).2.1.length<=xs.length/\(aL xs->aL (aw xs bad).2.1):=by
 unfold aw
 split
 ·exact ⟨Nat.le_refl _,fun h=>h⟩
 ·split
  ·exact ⟨Nat.le_refl _,fun h=>h⟩
  ·exact ⟨by simp,fun h x hx=>h x (List.mem_cons_of_mem _ hx)⟩
theorem a9:∀ (f m sh:Nat) {xs:List Int} (bad:Bool),(ai f m sh xs bad).2.1.length<=xs.length
 |0,_,_,xs,_=>Nat.le_refl _
 |f+1,m,sh,xs,bad=>by
  have h1:=(dh (xs:=xs) bad).1;unfold ai
  split
  ·exact h1
  ·exact Nat.le_trans (a9 f _ _ _) h1
theorem eD(n:Nat)(xs:List Int)(bad:Bool):(aZ n xs bad).1.length<=xs.length/\(aZ n xs bad).2.1.length<=xs.length/\(aL xs->aL (aZ n xs bad).1):=by
 unfold aZ
 split
 ·exact ⟨Nat.zero_le _,Nat.le_refl _,fun _ x hx=>absurd hx List.not_mem_nil⟩
 ·exact ⟨by rw [List.length_take];exact Nat.min_le_right _ _,by rw [List.length_drop];exact Nat.sub_le _ _,fun h x hx=>h x (List.mem_of_mem_take hx)⟩
theorem fp(xs:List Int)(bad:Bool):1<=(bF xs bad).1.length/\(bF xs bad).1.length<=2/\(bF xs bad).2.1.length<=xs.length:=by
 refine ⟨?_,?_,Nat.le_trans (eD _ _ _).2.1 (a9 3 0 1 bad)⟩
 ·unfold bF;simp only
  split <;> simp
 ·unfold bF;simp only
  split <;> simp
theorem gE{f:List Int}(h:aL f):∀ i,i<f.length->0<=f.getD i 0/\f.getD i 0<=255:=fun i hi=>by
 rw [show f.getD i 0=f[i] from by simp [List.getD,List.getElem?_eq_getElem hi]];exact h _ (List.getElem_mem hi)
theorem eV(s0 g:Nat)(xs:List Int)(bad:Bool)(w:World)(h:RdAt s0 w g xs bad)(hl:xs.length<=1000000):Calls Tryd.prog 103 #[.pointer (some ⟨g,0,none⟩)] w (dO s0 g w (fun w' u=>OwnE cellE (fun b=>w.heap.size<=b) w' w.heap.size 85 u (bF xs bad).1) (bF xs bad).2.1 (bF xs bad).2.2):=by
 have mm:=h.lt;obtain ⟨C,hC⟩:=ab (bF xs bad);rw [<-hC];unfold bF at hC;have HN:=aa (aY s0 g xs bad w h);have ky:=cA 3 0 1 xs bad h.2.1 (by decide);have rD:=a9 3 0 1 (xs:=xs) bad;obtain ⟨n,hn⟩:=ab ((ai 3 0 1 xs bad).1);obtain ⟨x1,hx1⟩:=ab ((ai 3 0 1 xs bad).2.1);obtain ⟨b1,hb1⟩:=ab ((ai 3 0 1 xs bad).2.2);rw [<-hn,<-hx1,<-hb1] at HN hC;rw [<-hn] at ky;rw [<-hx1] at rD;have ky:n<2097152:=ky;obtain ⟨nh,rd⟩:=ab (n / 2);obtain ⟨nr,pt⟩:=ab (n % 2);rw [<-rd,<-pt] at hC;have pE:(n:Int).tdiv 2=(nh:Int):=by rw [Int.tdiv_eq_ediv_of_nonneg (by omega)];omega
 have pI:(n:Int).tmod 2=(nr:Int):=by rw [Int.tmod_eq_emod_of_nonneg (by omega)];omega
 have lR:IntKind.i64.wrap (nh:Int)=(nh:Int):=by rw [IntKind.wrap_i64];omega
 have hwr:IntKind.i64.wrap (nr:Int)=(nr:Int):=by rw [IntKind.wrap_i64];omega
 have hnh9:nh<=1048576:=by omega
 have hnr9:nr<=1:=by omega
 have rB:=aa (fun (w':World) (h':RdAt s0 w' g x1 b1)=>eE s0 g x1 b1 nh w' h' (by omega));have tM:=eD nh x1 b1;obtain ⟨F,hF⟩:=ab ((aZ nh x1 b1).1);obtain ⟨x2,hx2⟩:=ab ((aZ nh x1 b1).2.1);obtain ⟨b2,hb2⟩:=ab ((aZ nh x1 b1).2.2);rw [<-hF,<-hx2,<-hb2] at rB hC;rw [<-hF] at tM;have kM:F.length<=1000000:=by omega
 have HFB:=aa tM.2.2;obtain ⟨gd,hgd⟩:=ab (jE F);rw [<-hgd] at hC;have HGD:=aa (show (!bI F (fr F))=gd from hgd.symm);have HPE:=aa (jg F);have ta:=aa h;have HC:=aa hC;clear hn hx1 hb1 rd pt hF hx2 hb2 hgd hC tM rD ky h
 go_enter Tryd.func103,Tryd.ntmps103
 go_wp2_with fail
 refine (HN.out).mono ?_;rintro e w1 ⟨u1,rfl,rfl,hr1,nB⟩;have o9:=aa hr1;have mE:=aa nB;clear hr1 nB HN
 go_wp2_with fail
 refine (rB.out w1 o9.out).mono ?_;rintro e w2 ⟨u2,rfl,sN,hr2,mq⟩;have n8:=aa sN;have ra:=aa hr2;have HP2:=aa (mE.out.trans mq);have rh:=aa (HFB.out o9.out.2.1);have mW:eT u2:=by
  obtain ⟨ao,cap,e,hc,_⟩:=sN;rw [e];exact fV hc
 have HCP:=aa mW;have rG:=aa (gy u2 F (fr F) HPE.out w2 sN.ints mW kM (gE rh.out));rw [HGD.out] at rG;clear sN hr2 mq o9 mE mW rB
 go_wp2_with fail
 refine rG.out.mono ?_;rintro e w3 ⟨rfl,b3⟩;have oP:=aa (ra.out.below b3);have HP3:=aa (HP2.out.trans (.ofBelow b3));have lU:=aa (n8.out.below b3);clear b3 rG ra HP2 n8
 go_wp2_with fail
 refine (bp s0 g x2 b2 gd w3 oP.out).mono ?_;rintro e w4 ⟨rfl,hr4,nH⟩;have nP:=aa (lU.out.upd nH (fun b hb e=>by have:=ta.out.1;omega));have rQ:=aa hr4;have HP4:=aa (HP3.out.trans nH);have qu:=aa (gx u2 F w4 nP.out.ints HCP.out kM (gE rh.out));clear hr4 nH oP HP3 lU
 go_wp2_with fail
 refine qu.out.mono ?_;rintro e w5 ⟨k5,v5,rfl,rx,oE,b5⟩;have hk:k5=fr F:=(gG rx).symm;subst hk;have oE:OwnE (bh .i32) (fun _=>True) w5 w4.heap.size 21 v5 (eY F):=by
  exact dG oE
 have qf:=oE.held (Z:=fun b=>w4.heap.size<=b) (fun b h _=>h);obtain ⟨to5,tc5,e5⟩:=qf.len;obtain ⟨T,hT⟩:=ab (eY F);rw [<-hT] at qf e5;have mB:=aa (show C=(if nr=1 then [(2,T),(3,[])] else [(1,T)],x2,b2 || !gd) from by rw [HC.out,hT]);obtain ⟨nt,r6⟩:=ab (T.length);rw [<-r6] at e5;subst e5;have HH5:=aa (qf.zone (Y:=fun b=>w.heap.size<=b) (fun b _ hz=>Nat.le_trans HP4.out.size hz));have rm:=aa (rQ.out.below b5);have uK:=aa (HP4.out.trans (.ofBelow b5));have tl:=aa uK.out.size;clear oE qf hT r6 b5 qu rx HC nP
 by_cases h1:nr=1
 ·subst h1;rw [if_pos rfl] at mB;obtain ⟨W6,oL⟩:=ab (w5.alloc (.cells [Value.int .i64 2,.slice to5 nt tc5,.int .i64 3,.slice none 0 0].toArray 85));have qP:Below w5.heap.size w5 W6:=by rw [oL];exact j0 _ _
  have ni:OwnE cellE (fun b=>w.heap.size<=b) W6 w.heap.size 85 (.slice (some ⟨w5.heap.size,0,none⟩) 2 2) [(2,T),(3,[])]:=by
   rw [oL];exact OwnE.lit (Z:=fun b=>w.heap.size<=b) (B:=w.heap.size) (ty:=85) w5 cellE [[.int .i64 2,.slice to5 nt tc5],[.int .i64 3,.slice none 0 0]] [(2,T),(3,[])] 2 rfl rfl tl.out (by decide) (fun i hi=>by
    match i,hi with
    | 0,_=>exact cell_rep.2 ⟨_,rfl,HH5.out⟩
    | 1,_=>exact cell_rep.2 ⟨_,rfl,HeldE.nil _ _ _⟩) _ rfl
  have HF:=aa (And.intro ni (And.intro (rm.out.below qP) (uK.out.trans (.ofBelow qP))));have HW:=aa oL.symm;clear oL qP ni;go_wp2;rw [HW.out];go_ret;exact ⟨_,rfl,by rw [mB.out];exact HF.out.1,by rw [mB.out];exact HF.out.2.1,HF.out.2.2⟩
 ·have d1:((nr:Int) == 1)=false:=by rw [beq_eq_false_iff_ne];omega
  rw [if_neg h1] at mB;obtain ⟨W6,oL⟩:=ab (w5.alloc (.cells [Value.int .i64 1,.slice to5 nt tc5].toArray 85));have qP:Below w5.heap.size w5 W6:=by rw [oL];exact j0 _ _
  have ni:OwnE cellE (fun b=>w.heap.size<=b) W6 w.heap.size 85 (.slice (some ⟨w5.heap.size,0,none⟩) 1 1) [(1,T)]:=by
   rw [oL];exact OwnE.lit (Z:=fun b=>w.heap.size<=b) (B:=w.heap.size) (ty:=85) w5 cellE [[.int .i64 1,.slice to5 nt tc5]] [(1,T)] 1 rfl rfl tl.out (by decide) (fun i hi=>by
    match i,hi with
    | 0,_=>exact cell_rep.2 ⟨_,rfl,HH5.out⟩) _ rfl
  have HF:=aa (And.intro ni (And.intro (rm.out.below qP) (uK.out.trans (.ofBelow qP))));have HW:=aa oL.symm;clear oL qP ni h1;go_wp2;rw [HW.out];go_ret;exact ⟨_,rfl,by rw [mB.out];exact HF.out.1,by rw [mB.out];exact HF.out.2.1,HF.out.2.2⟩
end Go.Proofs.YtechjomepdahiaaDoor
