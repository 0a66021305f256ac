import Derived.Test.YtechjomepdahiaaDoorZ0
import Derived.Test.YtechjomepdahiaaDoorWirG
import Derived.Test.YtechjomepdahiaaDoorMg3
import Derived.Test.YtechjomepdahiaaDoorMg5
set_option maxRecDepth 100000
set_option linter.unusedVariables false
set_option linter.unusedSimpArgs false
set_option maxHeartbeats 3000000
namespace Go.Proofs.YtechjomepdahiaaDoor
open Go.RowKit Go.ChangeShapes Go.WideShapes
theorem iF(f:List Int):∀ (d k:Nat),f.length - aJ f k<=d->aJ f k<=f.length->∃ K,aJ f K=f.length
 |0,k=>fun h h2=>⟨k,by omega⟩
 |d+1,k=>fun h h2=>by
  by_cases e:aJ f k=f.length
  ·exact ⟨k,e⟩
  ·have h1:=c8 f (aJ f k);have h3:=fW f (aJ f k) (by omega);exact iF f d (k+1) (by show f.length - (aJ f k+c3 f (aJ f k))<=d;omega) h3
theorem ks(f:List Int):aJ f (gl f)=f.length:=by
 obtain ⟨K,hK⟩:=iF f f.length 0 (by show f.length - 0<=_;omega) (Nat.zero_le _);rw [fL hK];exact hK
def bM(xs:List Int)(bad:Bool):List Cl × List Int × Bool :=
 (if (al 3 0 1 xs bad).1 % 2=1 then [(2,cU (bj ((al 3 0 1 xs bad).1 / 2) (al 3 0 1 xs bad).2.1 (al 3 0 1 xs bad).2.2).1),(3,[])] else [(1,cU (bj ((al 3 0 1 xs bad).1 / 2) (al 3 0 1 xs bad).2.1 (al 3 0 1 xs bad).2.2).1)],
  (bj ((al 3 0 1 xs bad).1 / 2) (al 3 0 1 xs bad).2.1 (al 3 0 1 xs bad).2.2).2.1,
  (bj ((al 3 0 1 xs bad).1 / 2) (al 3 0 1 xs bad).2.1 (al 3 0 1 xs bad).2.2).2.2 || !gm (bj ((al 3 0 1 xs bad).1 / 2) (al 3 0 1 xs bad).2.1 (al 3 0 1 xs bad).2.2).1)
theorem dD{xs:List Int}(bad:Bool):(ay xs bad).2.1.length<=xs.length/\(aP xs->aP (ay xs bad).2.1):=by
 unfold ay
 split
 ·exact ⟨Nat.le_refl _,fun h=>h⟩
 ·split
  ·exact ⟨Nat.le_refl _,fun h=>h⟩
  ·exact ⟨by simp,fun h x hx=>h x (List.mem_cons_of_mem _ hx)⟩
theorem bn:∀ (f m sh:Nat) {xs:List Int} (bad:Bool),(al f m sh xs bad).2.1.length<=xs.length
 |0,_,_,xs,_=>Nat.le_refl _
 |f+1,m,sh,xs,bad=>by
  have h1:=(dD (xs:=xs) bad).1;unfold al
  split
  ·exact h1
  ·exact Nat.le_trans (bn f _ _ _) h1
theorem fg(n:Nat)(xs:List Int)(bad:Bool):(bj n xs bad).1.length<=xs.length/\(bj n xs bad).2.1.length<=xs.length/\(aP xs->aP (bj n xs bad).1):=by
 unfold bj
 split
 ·exact ⟨Nat.zero_le _,Nat.le_refl _,fun _ x hx=>absurd hx List.not_mem_nil⟩
 ·exact ⟨by rw [List.length_take];exact Nat.min_le_right _ _,by rw [List.length_drop];exact Nat.sub_le _ _,fun h x hx=>h x (List.mem_of_mem_take hx)⟩
theorem ge(xs:List Int)(bad:Bool):1<=(bM xs bad).1.length/\(bM xs bad).1.length<=2/\(bM xs bad).2.1.length<=xs.length:=by
 refine ⟨?_,?_,Nat.le_trans (fg _ _ _).2.1 (bn 3 0 1 bad)⟩
 ·unfold bM;simp only
  split <;> simp
 ·unfold bM;simp only
  split <;> simp
theorem iG{f:List Int}(h:aP f):∀ i,i<f.length->0<=f.getD i 0/\f.getD i 0<=255:=fun i hi=>by
 rw [show f.getD i 0=f[i] from by simp [List.getD,List.getElem?_eq_getElem hi]];exact h _ (List.getElem_mem hi)
theorem fI(s0 g:Nat)(xs:List Int)(bad:Bool)(w:World)(h:RdAt s0 w g xs bad)(hl:xs.length<=1000000):Calls Tryd.prog 103 #[.pointer (some ⟨g,0,none⟩)] w (ek s0 g w (fun w' u=>OwnE cellE (fun b=>w.heap.size<=b) w' w.heap.size 85 u (bM xs bad).1) (bM xs bad).2.1 (bM xs bad).2.2):=by
 have n6:=h.lt;obtain ⟨C,hC⟩:=ab (bM xs bad);rw [<-hC];unfold bM at hC;have HN:=aa (bi s0 g xs bad w h);have l9:=cJ 3 0 1 xs bad h.2.1 (by decide);have sO:=bn 3 0 1 (xs:=xs) bad;obtain ⟨n,hn⟩:=ab ((al 3 0 1 xs bad).1);obtain ⟨x1,hx1⟩:=ab ((al 3 0 1 xs bad).2.1);obtain ⟨b1,hb1⟩:=ab ((al 3 0 1 xs bad).2.2);rw [<-hn,<-hx1,<-hb1] at HN hC;rw [<-hn] at l9;rw [<-hx1] at sO;have l9:n<2097152:=l9;obtain ⟨nh,tE⟩:=ab (n / 2);obtain ⟨nr,p7⟩:=ab (n % 2);rw [<-tE,<-p7] at hC;have p9:(n:Int).tdiv 2=(nh:Int):=by rw [Int.tdiv_eq_ediv_of_nonneg (by omega)];omega
 have qY:(n:Int).tmod 2=(nr:Int):=by rw [Int.tmod_eq_emod_of_nonneg (by omega)];omega
 have ns:IntKind.i64.wrap (nh:Int)=(nh:Int):=by rw [IntKind.wrap_i64];omega
 have hwr:IntKind.i64.wrap (nr:Int)=(nr:Int):=by rw [IntKind.wrap_i64];omega
 have hnh9:nh<=1048576:=by omega
 have hnr9:nr<=1:=by omega
 have sR:=aa (fun (w':World) (h':RdAt s0 w' g x1 b1)=>fh s0 g x1 b1 nh w' h' (by omega));have vZ:=fg nh x1 b1;obtain ⟨F,hF⟩:=ab ((bj nh x1 b1).1);obtain ⟨x2,hx2⟩:=ab ((bj nh x1 b1).2.1);obtain ⟨b2,hb2⟩:=ab ((bj nh x1 b1).2.2);rw [<-hF,<-hx2,<-hb2] at sR hC;rw [<-hF] at vZ;have l4:F.length<=1000000:=by omega
 have HFB:=aa vZ.2.2;obtain ⟨gd,hgd⟩:=ab (gm F);rw [<-hgd] at hC;have HGD:=aa (show (!bf F (gl F))=gd from hgd.symm);have HPE:=aa (ks F);have vf:=aa h;have HC:=aa hC;clear hn hx1 hb1 tE p7 hF hx2 hb2 hgd hC vZ sO l9 h
 go_enter Tryd.func103,Tryd.ntmps103
 go_wp2_with fail
 refine (HN.out).mono ?_;rintro e w1 ⟨u1,rfl,rfl,hr1,nJ⟩;have qh:=aa hr1;have oW:=aa nJ;clear hr1 nJ HN
 go_wp2_with fail
 refine (sR.out w1 qh.out).mono ?_;rintro e w2 ⟨u2,rfl,vp,hr2,nx⟩;have pF:=aa vp;have sS:=aa hr2;have HP2:=aa (oW.out.trans nx);have tq:=aa (HFB.out qh.out.2.1);have oy:fG u2:=by
  obtain ⟨ao,cap,e,hc,_⟩:=vp;rw [e];exact gU hc
 have HCP:=aa oy;have xm:=aa (iz u2 F (gl F) HPE.out w2 vp.ints oy l4 (iG tq.out));rw [HGD.out] at xm;clear vp hr2 nx qh oW oy sR
 go_wp2_with fail
 refine xm.out.mono ?_;rintro e w3 ⟨rfl,b3⟩;have qF:=aa (sS.out.below b3);have HP3:=aa (HP2.out.trans (.ofBelow b3));have nz:=aa (pF.out.below b3);clear b3 xm sS HP2 pF
 go_wp2_with fail
 refine (bC s0 g x2 b2 gd w3 qF.out).mono ?_;rintro e w4 ⟨rfl,hr4,pm⟩;have o7:=aa (nz.out.upd pm (fun b hb e=>by have:=vf.out.1;omega));have uw:=aa hr4;have HP4:=aa (HP3.out.trans pm);have su:=aa (iy u2 F w4 o7.out.ints HCP.out l4 (iG tq.out));clear hr4 pm qF HP3 nz
 go_wp2_with fail
 refine su.out.mono ?_;rintro e w5 ⟨k5,v5,rfl,tk,qb,b5⟩;have hk:k5=gl F:=(fL tk).symm;subst hk;have qb:OwnE (aV .i32) (fun _=>True) w5 w4.heap.size 21 v5 (cU F):=by
  exact dY qb
 have sy:=qb.held (Z:=fun b=>w4.heap.size<=b) (fun b h _=>h);obtain ⟨to5,tc5,e5⟩:=sy.len;obtain ⟨T,hT⟩:=ab (cU F);rw [<-hT] at sy e5;have ou:=aa (show C=(if nr=1 then [(2,T),(3,[])] else [(1,T)],x2,b2 || !gd) from by rw [HC.out,hT]);obtain ⟨nt,uK⟩:=ab (T.length);rw [<-uK] at e5;subst e5;have HH5:=aa (sy.zone (Y:=fun b=>w.heap.size<=b) (fun b _ hz=>Nat.le_trans HP4.out.size hz));have tA:=aa (uw.out.below b5);have vF:=aa (HP4.out.trans (.ofBelow b5));have vj:=aa vF.out.size;clear qb sy hT uK b5 su tk HC o7
 by_cases h1:nr=1
 ·subst h1;rw [if_pos rfl] at ou;obtain ⟨W6,o3⟩:=ab (w5.alloc (.cells [Value.int .i64 2,.slice to5 nt tc5,.int .i64 3,.slice none 0 0].toArray 85));have sF:Below w5.heap.size w5 W6:=by rw [o3];exact lD _ _
  have o5:OwnE cellE (fun b=>w.heap.size<=b) W6 w.heap.size 85 (.slice (some ⟨w5.heap.size,0,none⟩) 2 2) [(2,T),(3,[])]:=by
   rw [o3];exact OwnE.lit (Z:=fun b=>w.heap.size<=b) (B:=w.heap.size) (ty:=85) w5 cellE [[.int .i64 2,.slice to5 nt tc5],[.int .i64 3,.slice none 0 0]] [(2,T),(3,[])] 2 rfl rfl vj.out (by decide) (fun i hi=>by
    match i,hi with
    | 0,_=>exact cell_rep.2 ⟨_,rfl,HH5.out⟩
    | 1,_=>exact cell_rep.2 ⟨_,rfl,HeldE.nil _ _ _⟩) _ rfl
  have HF:=aa (And.intro o5 (And.intro (tA.out.below sF) (vF.out.trans (.ofBelow sF))));have HW:=aa o3.symm;clear o3 sF o5;go_wp2;rw [HW.out];go_ret;exact ⟨_,rfl,by rw [ou.out];exact HF.out.1,by rw [ou.out];exact HF.out.2.1,HF.out.2.2⟩
 ·have d1:((nr:Int) == 1)=false:=by rw [beq_eq_false_iff_ne];omega
  rw [if_neg h1] at ou;obtain ⟨W6,o3⟩:=ab (w5.alloc (.cells [Value.int .i64 1,.slice to5 nt tc5].toArray 85));have sF:Below w5.heap.size w5 W6:=by rw [o3];exact lD _ _
  have o5:OwnE cellE (fun b=>w.heap.size<=b) W6 w.heap.size 85 (.slice (some ⟨w5.heap.size,0,none⟩) 1 1) [(1,T)]:=by
   rw [o3];exact OwnE.lit (Z:=fun b=>w.heap.size<=b) (B:=w.heap.size) (ty:=85) w5 cellE [[.int .i64 1,.slice to5 nt tc5]] [(1,T)] 1 rfl rfl vj.out (by decide) (fun i hi=>by
    match i,hi with
    | 0,_=>exact cell_rep.2 ⟨_,rfl,HH5.out⟩) _ rfl
  have HF:=aa (And.intro o5 (And.intro (tA.out.below sF) (vF.out.trans (.ofBelow sF))));have HW:=aa o3.symm;clear o3 sF o5 h1;go_wp2;rw [HW.out];go_ret;exact ⟨_,rfl,by rw [ou.out];exact HF.out.1,by rw [ou.out];exact HF.out.2.1,HF.out.2.2⟩
end Go.Proofs.YtechjomepdahiaaDoor
