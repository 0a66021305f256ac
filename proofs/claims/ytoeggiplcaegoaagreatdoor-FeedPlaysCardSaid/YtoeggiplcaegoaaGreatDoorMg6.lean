import Derived.Test.YtoeggiplcaegoaaGreatDoorZ0
import Derived.Test.YtoeggiplcaegoaaGreatDoorCellP
import Derived.Test.YtoeggiplcaegoaaGreatDoorMg1
import Derived.Test.YtoeggiplcaegoaaGreatDoorErrS
import Derived.Deep.Cut
import Derived.Deep.CutRange
import Derived.Deep.MidRow
import Derived.Lib.AppendZeros
import Derived.Test.YtoeggiplcaegoaaGreatDoorUallP
import Derived.Test.YtoeggiplcaegoaaGreatDoorMg2
set_option maxRecDepth 100000
set_option linter.unusedVariables false
set_option linter.unusedSimpArgs false
set_option maxHeartbeats 1600000
namespace Go.Proofs.YtoeggiplcaegoaaGreatDoor
open Go.RowKit Go.ChangeShapes Go.WideShapes
theorem HeldE.ownedInts{B:Nat}{w:World}{n:Nat}{v:Value}{ty:TypeId}{xs:List Int}(h:w.ownsRow B ty 1 v n (xs.map (Value.int .i32))):HeldE (aE .i32) (fun b=>B<=b) w v xs:=(dH (Z:=fun b=>B<=b) h).held fun _ hb _=>hb
def yg(w:World)(K:Int)(T:List Int)(e:Ending)(w':World):Prop:=∃ tv',e=.returned (.agg #[.int .i64 K,tv'])/\HeldE (aE .i32) (fun b=>w.heap.size<=b) w' tv' T/\Below w.heap.size w w'
def vR(w:World)(K:Int)(T:List Int)(e:Ending)(w':World):Prop:=∃ tv',e=.returned (.agg #[.int .i64 K,tv'])/\OwnE (aE .i32) (fun _=>True) w' w.heap.size 21 tv' T/\Below w.heap.size w w'
theorem OwnE.heldInts{B:Nat}{w:World}{Z:an}{v:Value}{ty:TypeId}{xs:List Int}(h:OwnE (aE .i32) Z w B ty v xs):HeldE (aE .i32) (fun b=>B<=b) w v xs:=HeldE.ownedInts h.ints
theorem OwnE.anyInts{B:Nat}{w:World}{Z Y:an}{v:Value}{ty:TypeId}{xs:List Int}(h:OwnE (aE .i32) Z w B ty v xs):OwnE (aE .i32) Y w B ty v xs:=dH h.ints
theorem lJ(K:Int)(tv:Value)(T:List Int)(w:World)(ht:Held .i32 w tv T)(hl:T.length<=1000000000):Calls Tryz.prog 153 #[.agg #[.int .i64 K,tv]] w (vR w K T):=by
 have HT:=ab ht;obtain ⟨ao,cap,rfl,_⟩:=ht.view;clear ht;obtain ⟨w2,hw2⟩:=ae ((w.alloc (.cells #[.int .i64 K,.slice ao T.length cap] 147)).alloc (.cells #[.int .i64 0,.slice none 0 0] 147));have hb2:Below w.heap.size w w2:=by rw [hw2];exact (zI _ _).alloc (by simp) _
 have hs2:w2.heap.size=w.heap.size+2:=by rw [hw2];simp
 have hg:Has w2 w.heap.size [.int .i64 K,.slice ao T.length cap] 147:=by rw [hw2];exact (Has.new w _ _).alloc _
 have hr:Has w2 (w.heap.size+1) [.int .i64 0,.slice none 0 0] 147:=by
  rw [hw2];have:=Has.new (w.alloc (.cells #[.int .i64 K,.slice ao T.length cap] 147)) [.int .i64 0,.slice none 0 0] 147;rw [World.size_alloc] at this;exact this
 have AM:=ab hb2;have Dq:=ab hs2;have HG:=ab hg;have HRR:=ab hr;have HC:=ab (lr _ T w2 (HT.out.below hb2) hl);rw [hw2] at HC;have Hm:=ab hw2;clear hw2 hb2 hs2 hg hr
 go_enter Tryz.func153,Tryz.ntmps153
 go_wp2_with fail
 refine HC.out.mono ?_;rintro e w3 ⟨v5,rfl,EQ,b5⟩;rw [<-Hm.out] at EQ b5;have hs3:w.heap.size+2<=w3.heap.size:=by rw [<-Dq.out];exact b5.size
 have g3:=HG.out.below b5 HG.out.lt;have r3:=HRR.out.below b5 HRR.out.lt;have c0:=g3.cell 0 _ rfl;have c1:=g3.cell 1 _ rfl;have f0:=g3.free 0;have f1:=g3.free 1;have d0:=r3.cell 0 _ rfl;have d1:=r3.cell 1 _ rfl;have e0:=r3.free 0;have e1:=r3.free 1;have HO:=ab (dH (Z:=fun _=>False) EQ);have HH:=ab (HeldE.ownedInts EQ);have Bf:=ab (AM.out.trans (b5.mono AM.out.size));have EV:=ab hs3;obtain ⟨a5,c5,e5⟩:=HH.out.len;clear EQ b5 g3 r3 hs3;subst e5;go_wp2;refine bodyPost_ret (v:=.agg #[.int .i64 K,.slice a5 T.length c5]) (by simp [results,Tryz.results153,go_sem,c0,c1,f0,f1,d0,d1,e0,e1]) rfl ⟨_,rfl,?_,?_⟩
 ·exact OwnE.anyInts (OwnE.base (OwnE.upd HO.out (((((Upd.refl (fun b=>b<w.heap.size+2) w3).setCell (.inl (by simp)) _).setCell (.inl (by simp)) _).setCell (.inl (by simp)) _)) (fun b h k=>by
   rcases h with h | h
   ·exact h
   ·have:=(HO.out.lt b h).1;rw [Dq.out] at this;omega)) (by rw [Dq.out];omega))
 ·exact (((Bf.out.setCell (by simp) _).setCell (by simp) _).setCell (by simp) _)
theorem lK(K:Int)(tv:Value)(T:List Int)(w:World)(ht:Held .i32 w tv T)(hl:T.length<=1000000000):Calls Tryz.prog 153 #[.agg #[.int .i64 K,tv]] w (yg w K T) :=
 (lJ K tv T w ht hl).mono fun _ _ ⟨v,e,h,b⟩=>⟨v,e,h.heldInts,b⟩
theorem OwnE.some{α:Type}{E:Elem α}{Z:an}{w:World}{B:Nat}{ty:TypeId}{v:Value}{L:List α}(h:OwnE E Z w B ty v L)(hl:0<L.length):∃ g cap,v=.slice (some ⟨g,0,none⟩) L.length cap/\B<=g/\g<w.heap.size:=by
 obtain ⟨CS,h1,_⟩:=h
 rcases h1.2 with ⟨rfl,h0⟩ | ⟨g,cap,cur,rfl,hB,hg,_⟩
 ·omega
 ·exact ⟨g,cap,rfl,hB,(Array.getElem?_eq_some_iff.1 hg).1⟩
theorem OwnE.zone{α:Type}{E:Elem α}{Z Y:an}{w:World}{B:Nat}{ty:TypeId}{v:Value}{L:List α}(h:OwnE E Z w B ty v L)(hy:∀ b,b<w.heap.size->Z b->Y b):OwnE E Y w B ty v L:=h.keep (.refl _ _) hy
theorem pK(v:Value)(L:List Cl)(w:World)(hv:HeldE cellE (fun b=>b<w.heap.size) w v L)(hl:L.length<=1000000):Calls Tryz.prog 193 #[v] w (fk cellE (fun b=>b<w.heap.size) 147 w L):=by
 obtain ⟨ao,cap,rfl⟩:=hv.len
 cases ao with
 |none =>
  obtain ⟨rfl,_,rfl⟩:=hv.nilL;clear hv;have q:=fun w=>run_eql_slice_nil (P:=Tryz.prog) w 102 147 none 0 0 Tryz.underlying102
  go_enter Tryz.func193,Tryz.ntmps193
  go_wp2;go_ret;exact ⟨_,rfl,OwnE.nil _ _ _ _ _,Below.refl _ _⟩
 |some a =>
  have hb:=zI w (.cells #[] 147);have HE:=ab (OwnE.fresh0 (E:=cellE) (Z:=fun b=>b<w.heap.size) w 147 (Nat.le_refl w.heap.size));have AF:=HE.out.lt;have HU:=ab (show HeldE cellE (fun b=>b<w.heap.size/\_≠some b) _ _ L from (hv.below hb).zone (fun b _ hz=>⟨hz,fun e=>by have:=(AF b e).1;omega⟩));have HB:=ab hb;clear hv hb AF;have q:=fun w=>run_eql_slice_nil (P:=Tryz.prog) w 102 147 (some a) L.length cap Tryz.underlying102
  go_enter Tryz.func193,Tryz.ntmps193
  go_wp2_with (at_builtin;refine aw (E:=cellE) (Z:=fun b=>b<w.heap.size) rfl (.tmp 5) (.tmp 6) 102 rfl (.agg #[.int .i64 0,.slice none 0 0]) 32 Tryz.underlying102 cD rfl (by decide) rfl rfl HE.out HU.out (by simp;omega) (by simp;omega) HB.out.size ?_)
  intro v2 w2 Ap hb2 _ _;have H2:=ab Ap;have B2:=ab (HB.out.trans hb2);clear Ap hb2;go_wp2;go_ret;exact ⟨_,rfl,by simpa using H2.out,B2.out⟩
theorem vQ{α:Type}(l:List α)(d:α)(k:Nat)(h:k<l.length):l.set k (l.getD k d)=l:=by
 apply List.ext_getElem?
 intro i
 by_cases e:i=k
 ·subst e;rw [List.getElem?_set_self h]
  simp [List.getD,List.getElem?_eq_getElem h]
 ·rw [List.getElem?_set_ne (Ne.symm e)]
theorem pL(Z:an)(v:Value)(L:List Cl)(w:World)(hv:HeldE cellE Z w v L)(hl:L.length<=1000000)(ht:∀ k,k<L.length->(L.getD k zc).2.length<=1000000000) :
  Calls Tryz.prog 135 #[v] w (fk cellE (fun b=>w.heap.size<=b) 147 w L):=by
 have HC:=ab (pK v L w hv.lower hl);have HT:=ab ht;obtain ⟨ao,cap,rfl⟩:=hv.len;clear hv ht
 by_cases h0:L.length=0
 ·obtain rfl:L=[]:=List.eq_nil_of_length_eq_zero h0;clear h0 hl
  go_enter Tryz.func135,Tryz.ntmps135
  go_wp2_with fail
  refine HC.out.mono ?_;rintro e w1 ⟨v1,rfl,AA,b1⟩;obtain ⟨a1,c1,rfl⟩:=((AA.zone (Y:=fun _=>True) (fun _ _ _=>trivial)).held (fun _ _ _=>trivial)).len;have HO:=ab (OwnI.all (Z:=fun b=>w.heap.size<=b) AA.each (fun i b hi=>absurd hi (Nat.not_lt_zero _)));have HB:=ab b1;clear AA b1;simp only [List.length_nil];go_wp2
  go_loopw [9] (fun i wr=>i=.int .i64 0/\wr=w1) (fun i _=>0)
  case atStart=>exact ⟨rfl,(by first | rfl | trivial)⟩
  case round =>
   obtain ⟨rfl,Oz⟩:=hrel;subst Oz;go_wp2;go_ret;exact ⟨_,rfl,HO.out,HB.out⟩
 ·have Ci:0<L.length:=by omega
  clear h0
  go_enter Tryz.func135,Tryz.ntmps135
  go_wp2_with fail
  refine HC.out.mono ?_;rintro e w1 ⟨v1,rfl,AA,b1⟩;obtain ⟨g,c1,rfl,hg1,hg2⟩:=AA.some Ci;have A4:=ab AA;have Ah:=ab b1;clear AA b1 HC;go_wp2
  go_loopw [9] (fun i wr=>∃ k:Nat,k<=L.length/\i=.int .i64 k/\OwnI cellE (fun j=>if j<k then (fun b=>w.heap.size<=b) else (fun b=>b<w.heap.size)) wr w.heap.size 147 (.slice (some ⟨g,0,none⟩) L.length c1) L/\Below w.heap.size w wr) (fun i _=>L.length - (intOf i).toNat)
  case atStart=>exact ⟨0,Nat.zero_le _,rfl,A4.out.each.keep (.refl _ _) (fun i b _ _ h=>h),Ah.out⟩
  case round =>
   obtain ⟨k,hk,rfl,hown,zN⟩:=hrel;have z5:=ab zN;clear zN
   by_cases hlt:k<L.length
   ·have DK:=HT.out k hlt;have hs:=vQ L zc k hlt;obtain ⟨C,hC,hr⟩:=hown.at hlt;obtain ⟨tv,rfl,hh⟩:=cell_rep.1 hr;have hh:HeldE (aE .i32) _ wr tv (L.getD k zc).2:=hh;have q0:wr.cell? ⟨g,k * 2,none⟩=some (.int .i64 (L.getD k zc).1):=(hC 0 (by decide)).1;have q1:wr.cell? ⟨g,k * 2+1,none⟩=some tv:=(hC 1 (by decide)).1;have hglt:g<wr.heap.size:=(hown.lt g rfl).2;obtain ⟨⟨K,T⟩,Er⟩ : ∃ y,y=L.getD k zc:=⟨_,rfl⟩;rw [<-Er] at q0 hh hs DK;simp only at q0 hh DK;have HH:=ab hh.ints;have HS:=ab hs;have HOW:=ab hown;clear hown hC hr Er hh hs;obtain ⟨tz9,tc,rfl,_⟩:=HH.out.view;have hb1:=zI wr (.cells #[.int .i64 K,.slice tz9 T.length tc] 147);have Gp:=ab (lK K _ T _ (HH.out.below hb1) DK);have Ct:=ab hb1;clear hb1
    go_wp2_with fail
    refine Gp.out.mono ?_;rintro e w3 ⟨v3,rfl,Cq,b3⟩;have hb4:Below wr.heap.size wr w3:=Ct.out.trans (b3.mono Ct.out.size);have Gk:=ab (HOW.out.below hb4);have BD:=ab (z5.out.trans (hb4.mono z5.out.size));have Jc:=ab (show cellE.rep (fun b=>w.heap.size<=b/\b≠g) w3 [.int .i64 K,v3] (K,T) from cell_rep.2 ⟨_,rfl,Cq.zone (fun b _ h=>by have:=z5.out.size;simp only [World.size_alloc] at h;exact ⟨by omega,by omega⟩)⟩);obtain ⟨a3,c3,rfl⟩:=Cq.len;clear Cq b3 hb4 q0 q1
    go_wp2_with (refine eN (E:=cellE) (Y:=fun b=>w.heap.size<=b) (i:=k) rfl 147 (.tmp 18) (.tmp 17) rfl rfl rfl [.int .i64 K,.slice a3 T.length c3] rfl (by kernel_rfl) Gk.out hlt (K,T) Jc.out ?_)
    intro w4 Lg DI;rw [HS.out] at Lg;have Mj:=ab (Lg.keep (Yi:=fun j=>if j<k+1 then (fun b=>w.heap.size<=b) else (fun b=>b<w.heap.size)) (.refl _ _) (fun i b _ _ h=>by
     by_cases e:i=k
     ·subst e;simp at h;simpa using h
     ·simp only [if_neg e] at h
      by_cases e2:i<k
      ·simp only [if_pos e2] at h;simp only [if_pos (show i<k+1 by omega)];exact h
      ·simp only [if_neg e2] at h;simp only [if_neg (show ¬ i<k+1 by omega)];exact h))
    have EW:=ab (BD.out.upd DI BD.out.size (fun x e=>by omega));clear Lg DI;go_wp2
    go_roundw
    case rel=>exact ⟨k+1,by omega,by go_num,Mj.out,EW.out⟩
    case measure=>simp [intOf] <;> omega
   ·obtain rfl:k=L.length:=by omega
    have HO:=ab (OwnI.all (Z:=fun b=>w.heap.size<=b) hown (fun i b hi _ h=>by simpa [hi] using h));clear hown;go_wp2;go_ret;exact ⟨_,rfl,HO.out,z5.out⟩
section
def RowAt(Z:an)(w:World)(B g gc:Nat)(L:List Cl)(wrap:Bool):Prop :=
 ∃ cap,Has w g [.slice (some ⟨gc,0,none⟩) L.length cap,.bool wrap] 187/\B<=g/\gc≠g/\OwnE cellE (fun b=>Z b/\b≠g) w B 147 (.slice (some ⟨gc,0,none⟩) L.length cap) L/\0<L.length/\L.length<=1024/\bz L=true
section
variable {Z Y S : an} {w w' : World} {B g gc : Nat} {L : List Cl} {wrap : Bool}
theorem RowAt.lt(h:RowAt Z w B g gc L wrap):g<w.heap.size/\gc<w.heap.size/\B<=gc/\B<=g:=by
 obtain ⟨cap,h1,h2,h3,h4,h5,_⟩:=h;exact ⟨h1.lt,(h4.lt gc rfl).2,(h4.lt gc rfl).1,h2⟩
theorem RowAt.keep(h:RowAt Z w B g gc L wrap)(hk:KeepZ (fun b=>Z b\/b=g\/b=gc) w w')(hy:∀ b,b<w.heap.size->Z b->Y b):RowAt Y w' B g gc L wrap:=by
 obtain ⟨cap,h1,h2,h3,h4,h5⟩:=h;refine ⟨cap,hk.has h1 (.inr (.inl rfl)),h2,h3,h4.keep (hk.mono fun b _ hz=>?_) (fun b hb hz=>⟨hy b hb hz.1,hz.2⟩),h5⟩
 rcases hz with hz | hz
 ·exact .inl hz.1
 ·exact .inr (.inr (by simpa [Value.ownBlock] using hz.symm))
theorem RowAt.below(h:RowAt Z w B g gc L wrap)(hb:Below w.heap.size w w'):RowAt Z w' B g gc L wrap:=h.keep (.all hb _) fun _ _ h=>h
theorem RowAt.upd(h:RowAt Z w B g gc L wrap)(hu:Upd S w w')(hz:∀ b,Z b->¬ S b)(hg:¬ S g)(hgc:¬ S gc):RowAt Z w' B g gc L wrap :=
 h.keep (hu.keep.mono fun b _ hb=>by rcases hb with hb | rfl | rfl;exact hz b hb;exact hg;exact hgc) fun _ _ h=>h
theorem RowAt.base(h:RowAt Z w B g gc L wrap){B':Nat}(hb:B'<=B):RowAt Z w B' g gc L wrap:=by
 obtain ⟨cap,h1,h2,h3,h4,h5⟩:=h;exact ⟨cap,h1,by omega,h3,h4.base hb,h5⟩
theorem RowAt.len(h:RowAt Z w B g gc L wrap):0<L.length/\L.length<=1024/\bz L=true:=by
 obtain ⟨cap,_,_,_,_,h5⟩:=h;exact h5
theorem RowAt.held(h:RowAt Z w B g gc L wrap):∃ cap,Has w g [.slice (some ⟨gc,0,none⟩) L.length cap,.bool wrap] 187/\HeldE cellE (fun b=>True) w (.slice (some ⟨gc,0,none⟩) L.length cap) L:=by
 obtain ⟨cap,h1,h2,h3,h4,h5⟩:=h;exact ⟨cap,h1,(h4.zone (Y:=fun _=>True) (fun _ _ _=>trivial)).held fun _ _ _=>trivial⟩
end
theorem pG{L:List Cl}(h:bz L=true):∀ k,k<L.length->cd (L.getD k zc)=true:=by
 intro k hk;rw [mF] at h;have:=nZ hk h;unfold nY at this;simp only [Bool.and_eq_true] at this;exact this.1.1
theorem pH{c:Cl}(h:cd c=true):c.2.length<=16:=by
 obtain ⟨k,t⟩:=c;unfold cd at h
 split at h
 ·simp at h;simp [h]
 ·simp only [Bool.and_eq_true,decide_eq_true_eq] at h;exact h.1.2
theorem gS{L:List Cl}(h:bz L=true):∀ k,k<L.length->(L.getD k zc).2.length<=1000000000:=fun k hk=>by have:=pH (pG h k hk);omega
def yc(Z:an)(w:World)(L:List Cl)(wrap:Bool)(e:Ending)(w':World):Prop:=∃ g gc,e=.returned (.pointer (some ⟨g,0,none⟩))/\RowAt Z w' w.heap.size g gc L wrap/\Below w.heap.size w w'
theorem yd{Z:an}{w:World}{B:Nat}{v:Value}{L:List Cl}{wrap:Bool}(h:OwnE cellE Z w B 147 v L)(hB:B<=w.heap.size)(h0:0<L.length)(h1:L.length<=1024)(hs:bz L=true):∃ gc,RowAt Z (w.alloc (.cells #[v,.bool wrap] 187)) B w.heap.size gc L wrap:=by
 obtain ⟨gc,cap,rfl,hg1,hg2⟩:=h.some h0;refine ⟨gc,cap,Has.new w _ _,hB,by omega,(h.keep (Y:=fun b=>Z b/\b≠w.heap.size) (.all (zI _ _) _) (fun b hb hz=>⟨hz,by omega⟩)),h0,h1,hs⟩
theorem pI(m:Nat):bz (List.replicate m zc)=true:=by
 unfold bz
 induction m with
 | zero=>rfl
 | succ m ih=>rw [List.replicate_succ];show (true && true && dF false _)=true;rw [ih];rfl
def da(n:Int):Nat:=(min (max n 1) 1024).toNat
theorem qZ(n:Int):j6 (max n 1)=da n/\0<da n/\da n<=1024/\max 1 (min n 1024)=(da n:Int):=by unfold j6 da;omega
theorem pJ(Z:an)(n:Int)(w:World):Calls Tryz.prog 155 #[.int .i64 n] w (yc Z w (List.replicate (da n) zc) false):=by
 have HB:=ab (iO Z (max n 1) w);obtain ⟨h1,h2,h3,_⟩:=qZ n;rw [h1] at HB;clear h1
 go_enter Tryz.func155,Tryz.ntmps155
 go_wp2_with fail
 refine HB.out.mono ?_;rintro e w1 ⟨v1,rfl,AA,b1⟩;obtain ⟨gc0,cap0,rfl,_,_⟩:=AA.some (by simp;omega);obtain ⟨gc,hr⟩:=yd (wrap:=false) AA b1.size (by simp;omega) (by simp;omega) (pI _);rw [List.length_replicate] at hr ⊢;have HR:=ab hr;have Ah:=ab b1;clear AA b1 hr;go_wp2;go_ret;exact ⟨_,gc,rfl,HR.out,Ah.out.alloc Ah.out.size _⟩
theorem mS(Z:an)(B g gc:Nat)(L:List Cl)(wrap:Bool)(w:World)(h:RowAt Z w B g gc L wrap):Calls Tryz.prog 70 #[.pointer (some ⟨g,0,none⟩)] w fun e w'=>e=.returned (.int .i64 L.length)/\w=w':=by
 obtain ⟨cap,h1,_⟩:=h.held;have c0:=h1.cell 0 _ rfl;clear h h1
 go_enter Tryz.func70,Tryz.ntmps70
 go_wp2;go_ret;exact ⟨rfl,rfl⟩
theorem tz(Z:an)(B g gc:Nat)(L:List Cl)(wrap:Bool)(w:World)(h:RowAt Z w B g gc L wrap):Calls Tryz.prog 63 #[.pointer (some ⟨g,0,none⟩)] w fun e w'=>e=.returned (.bool wrap)/\w=w':=by
 obtain ⟨cap,h1,_⟩:=h.held;have c1:=h1.cell 1 _ rfl;clear h h1
 go_enter Tryz.func63,Tryz.ntmps63
 go_wp2;go_ret;exact ⟨rfl,rfl⟩
theorem ra(Z:an)(B g gc:Nat)(L:List Cl)(wrap:Bool)(w:World)(h:RowAt Z w B g gc L wrap):Calls Tryz.prog 96 #[.pointer (some ⟨g,0,none⟩)] w (fk cellE (fun b=>w.heap.size<=b) 147 w L):=by
 obtain ⟨_,hl,hs⟩:=h.len;obtain ⟨cap,h1,h2⟩:=h.held;have HC:=ab (pL _ _ L w h2 (by omega) (gS hs));have c0:=h1.cell 0 _ rfl;clear h h1 h2 hs
 go_enter Tryz.func96,Tryz.ntmps96
 go_wp2_with fail
 refine HC.out.mono ?_;rintro e w1 ⟨v1,rfl,AA,b1⟩;go_wp2;go_ret;exact ⟨_,rfl,AA,b1⟩
theorem tA(b:Bool)(w:World):Calls Tryz.prog 71 #[.pointer none,.bool b] w fun e w'=>e=.returned (.tuple #[])/\w=w':=by
 go_enter Tryz.func71,Tryz.ntmps71
 go_wp2;exact bodyPost_end (by kernel_rfl) rfl ⟨rfl,rfl⟩
def mT(Z:an)(w:World)(B g gc:Nat)(L:List Cl)(wrap:Bool)(e:Ending)(w':World):Prop:=e=.returned (.tuple #[])/\RowAt Z w' B g gc L wrap/\Upd (fun b=>b=g\/b=gc) w w'
theorem tB(Z:an)(B g gc:Nat)(L:List Cl)(wrap b:Bool)(w:World)(h:RowAt Z w B g gc L wrap):Calls Tryz.prog 71 #[.pointer (some ⟨g,0,none⟩),.bool b] w (mT Z w B g gc L b):=by
 obtain ⟨cap,h1,h2,h3,h4,h5⟩:=h;have hu:=(Upd.refl (fun b=>b=g) w).setCell (p:=⟨g,1,none⟩) (.inl rfl) (.bool b);have hp:mT Z w B g gc L b (.returned (.tuple #[])) (w.setCell ⟨g,1,none⟩ (.bool b)):=by
  refine ⟨rfl,⟨cap,?_,h2,h3,h4.upd hu (fun b hb=>?_),h5⟩,hu.mono fun b _ h=>.inl h⟩
  ·have:=h1.set 1 (.bool b)
   simpa using this
  ·rcases hb with hb | hb
   ·exact hb.2
   ·have:gc=b:=by simpa [Value.ownBlock] using hb
    subst this;exact h3
 have HP:=ab hp;have c1:=h1.cell 1 _ rfl;have f1:=h1.free 1;clear h1 h2 h3 h4 h5 hu hp
 go_enter Tryz.func71,Tryz.ntmps71
 go_wp2;exact bodyPost_end (by kernel_rfl) rfl HP.out
def ye(w:World)(c:Cl)(e:Ending)(w':World):Prop:=∃ tv,e=.returned (.tuple #[.agg #[.int .i64 c.1,tv],.bool true])/\HeldE (aE .i32) (fun b=>w.heap.size<=b) w' tv c.2/\Below w.heap.size w w'
def yf(w:World)(c:Cl)(e:Ending)(w':World):Prop:=∃ tv,e=.returned (.tuple #[.agg #[.int .i64 c.1,tv],.bool true])/\OwnE (aE .i32) (fun _=>True) w' w.heap.size 21 tv c.2/\Below w.heap.size w w'
theorem tC(Z:an)(B g gc:Nat)(L:List Cl)(wrap:Bool)(i:Nat)(w:World)(h:RowAt Z w B g gc L wrap)(hi:i<L.length):Calls Tryz.prog 85 #[.pointer (some ⟨g,0,none⟩),.int .i64 i] w (yf w (L.getD i zc)):=by
 obtain ⟨w1,Cd⟩:=ae (w.alloc (.cells #[.int .i64 0,.slice none 0 0] 147));have hb:Below w.heap.size w w1:=by rw [Cd];exact zI w _
 have hr1:Has w1 w.heap.size [.int .i64 0,.slice none 0 0] 147:=by rw [Cd];exact Has.new w _ _
 have h1:=h.below hb;obtain ⟨_,hl,hs⟩:=h.len;have DK:=gS hs i hi;obtain ⟨cap,h2,h3⟩:=h1.held;obtain ⟨_,_,hc⟩:=fl h3;obtain ⟨b,off,tv,e,hbl,_,c0,c1,ht⟩:=hc i hi
 cases e
 simp only [Nat.zero_add] at c0 c1;have k0:=h2.cell 0 _ rfl;obtain ⟨⟨K,T⟩,Er⟩ : ∃ y,y=L.getD i zc:=⟨_,rfl⟩;rw [<-Er] at c0 ht DK ⊢;simp only at c0 ht DK;have Gp:=ab (lJ K tv T w1 ht.ints DK);have HW:=ab (mS Z B g gc L wrap w1 h1);have HB:=ab hb;have HR:=ab hr1;have hs1:w1.heap.size=w.heap.size+1:=by rw [Cd];simp
 have Ja:=ab hs1;have HT:=ab ht;obtain ⟨tz9,tc,rfl⟩:=ht.len;subst Cd;have hlt:=hi;clear h h1 h2 h3 hc hs Er hb hr1 hs1 ht
 go_enter Tryz.func85,Tryz.ntmps85
 go_wp2_with fail
 refine HW.out.mono ?_;rintro e w2 ⟨rfl,rfl⟩
 go_wp2_with fail
 refine Gp.out.mono ?_;rintro e w3 ⟨v3,rfl,Cq,b3⟩;have r3:=HR.out.below b3 HR.out.lt;have hs3:w.heap.size+1<=w3.heap.size:=by rw [<-Ja.out];exact b3.size
 have d0:=r3.cell 0 _ rfl;have d1:=r3.cell 1 _ rfl;have e0:=r3.free 0;have e1:=r3.free 1;have HO:=ab (Cq.anyInts (Y:=fun _=>False));have BD:=ab (HB.out.trans (b3.mono HB.out.size));have EV:=ab hs3;obtain ⟨a3,c3,e5⟩:=Cq.heldInts.len;clear Cq b3 r3 hs3 c0 c1 k0;subst e5;go_wp2;refine bodyPost_ret (v:=.tuple #[.agg #[.int .i64 K,.slice a3 T.length c3],.bool true]) (by simp [results,Tryz.results85,go_sem,d0,d1,e0,e1]) rfl ⟨_,rfl,?_,?_⟩
 ·exact OwnE.anyInts (OwnE.base (OwnE.upd HO.out ((((Upd.refl (fun b=>b<w.heap.size+1) w3).setCell (.inl (by simp)) _).setCell (.inl (by simp)) _)) (fun b h k=>by
   rcases h with h | h
   ·exact h
   ·have:=(HO.out.lt b h).1;rw [Ja.out] at this;omega)) (by rw [Ja.out];omega))
 ·exact ((BD.out.setCell (by simp) _).setCell (by simp) _)
theorem vP(Z:an)(B g gc:Nat)(L:List Cl)(wrap:Bool)(i:Nat)(w:World)(h:RowAt Z w B g gc L wrap)(hi:i<L.length):Calls Tryz.prog 85 #[.pointer (some ⟨g,0,none⟩),.int .i64 i] w (ye w (L.getD i zc)) :=
 (tC Z B g gc L wrap i w h hi).mono fun _ _ ⟨v,e,h,b⟩=>⟨v,e,h.heldInts,b⟩
end
section
section
variable (sa : Nat → Addr) (Y : an) (L : List Cl) (v : Value) (w : World)
end
end
section
def Mid(Z:an)(w wx:World)(B g gc n cap:Nat)(L1:List Cl)(wrap:Bool):Prop :=
 L1.length=n/\Has wx g [.slice (some ⟨gc,0,none⟩) n cap,.bool wrap] 187/\OwnE cellE (fun b=>Z b/\b≠g) wx B 147 (.slice (some ⟨gc,0,none⟩) n cap) L1/\Upd (fun b=>b=g\/b=gc) w wx
section
variable {Z : an} {w wx wy : World} {B g gc n cap : Nat} {L1 : List Cl} {wrap : Bool}
theorem Mid.row(h:Mid Z w wx B g gc n cap L1 wrap):wx.cell? ⟨g,0,none⟩=some (.slice (some ⟨gc,0,none⟩) n cap):=h.2.1.cell 0 _ rfl
theorem Mid.kind(h:Mid Z w wx B g gc n cap L1 wrap){i:Nat}(hi:i<n):wx.cell? ⟨gc,i * 2,none⟩=some (.int .i64 (L1.getD i zc).1):=by
 obtain ⟨C,hC,hr⟩:=h.2.2.1.each.at (i:=i) (by rw [h.1];exact hi);obtain ⟨tv,rfl,_⟩:=cell_rep.1 hr;exact (hC 0 (by decide)).1
theorem Mid.below(h:Mid Z w wx B g gc n cap L1 wrap)(hb:Below wx.heap.size wx wy):Mid Z w wy B g gc n cap L1 wrap :=
 ⟨h.1,h.2.1.below hb h.2.1.lt,h.2.2.1.below hb,h.2.2.2.trans (.ofBelow hb)⟩
theorem Mid.drew(h:Mid Z w wx B g gc n cap L1 wrap):Mid Z w wx.drew B g gc n cap L1 wrap:=h.below (Below.refl _ _).drew
theorem Mid.put(h:Mid Z w wx B g gc n cap L1 wrap)(hne:gc≠g){i:Nat}(_hi:i<n){z:Cl}{w':World}{n':Nat}(hn:n'=n)
  {Zi:Nat->an} (ho:OwnI cellE Zi w' B 147 (.slice (some ⟨gc,0,none⟩) n' cap) (L1.set i z)) (hz:∀ j b,Zi j b->Z b/\b≠g) (hu:Upd (fun b=>b=gc) wx w'):Mid Z w w' B g gc n cap (L1.set i z) wrap:=by
 subst hn;exact ⟨by rw [List.length_set];exact h.1,(hu.keep.has h.2.1 (Ne.symm hne)),ho.all (fun j b _ _ k=>hz j b k),h.2.2.2.trans (hu.mono fun b _ e=>.inr e)⟩
theorem Mid.setWrap(h:Mid Z w wx B g gc n cap L1 wrap)(hne:gc≠g)(b:Bool):Mid Z w (wx.setCell ⟨g,1,none⟩ (.bool b)) B g gc n cap L1 b:=by
 have hu:=(Upd.refl (fun b=>b=g) wx).setCell (p:=⟨g,1,none⟩) (.inl rfl) (.bool b);refine ⟨h.1,by simpa using h.2.1.set 1 (.bool b),h.2.2.1.upd hu (fun b hb=>?_),h.2.2.2.trans (hu.mono fun b _ e=>.inl e)⟩
 rcases hb with hb | hb
 ·exact hb.2
 ·have:gc=b:=by simpa [Value.ownBlock] using hb
  subst this;exact hne
theorem Mid.done(h:Mid Z w wx B g gc n cap L1 wrap)(hB:B<=g)(hne:gc≠g)(h0:0<n)(h1:n<=1024)(hs:bz L1=true):RowAt Z wx B g gc L1 wrap:=by
 obtain ⟨h2,h3,h4,_⟩:=h;subst h2;exact ⟨cap,h3,hB,hne,h4,h0,h1,hs⟩
end
theorem gT{P:Program}{ρ:Operand->Value}{o:Oper}{w:World}{ty:TypeId}{x y:Operand}{b off:Nat}(ho:o.op=.store ty x y)(hx:ρ x=.pointer (some ⟨b,off,none⟩))(C:List Value)(hy:ρ y=.agg C.toArray)(ht:w.there b off C.length)
  (hi:(P.info? ty).map (·.size)=some C.length) (h1:∀ v ∈ C,v.oneCell'=true):(execOp ρ o).run P w=.ok .skip (w.setCells b off C):=by
 have:=run_storeAt_mid (P:=P) w b off ty C.toArray (by simpa using ht) (by simpa using hi) (all_oneCell_toArray h1);unfold execOp;simp only [ho,hx,hy,Sem.run_bind,this,Result.andThen_ok,Sem.run_pure]
section
variable (sa : Nat → Addr) (Z Y : an) (B g gc : Nat) (L p : List Cl) (wrap : Bool) (at_ : Int) (v : Value) (w : World)
def js(L':List Cl)(wrap':Bool)(e:Ending)(w':World):Prop:=e=.returned .nilIface/\RowAt Z w' B g gc L' wrap'/\Upd (fun b=>b=g\/b=gc) w w'
theorem pM(h:RowAt Z w B g gc L wrap)(hv:HeldE cellE Y w v [])(a:Nat)(hle:a<=L.length):Calls Tryz.prog 188 #[.pointer (some ⟨g,0,none⟩),.int .i64 a,v] w (js Z B g gc w L wrap):=by
 obtain ⟨_,hl,_⟩:=h.len;obtain ⟨cap,h1,_⟩:=h.held;have c0:=h1.cell 0 _ rfl;have H:=ab h;have DM:=ab (mX _ _ _ _ hv);rw [show bz []=true from rfl] at DM;obtain ⟨ao,pc,rfl⟩:=hv.len;simp only [List.length_nil] at DM ⊢;clear h h1 hv;have hD2:¬ ((L.length:Int) - (a:Int)<0):=by omega
 go_enter Tryz.func188,Tryz.ntmps188
 go_wp2_with fail
 refine DM.out.mono ?_;rintro e w2 ⟨rfl,b2⟩;go_wp2;go_ret;exact ⟨af,H.out.below b2,.ofBelow b2⟩
end
end
def fR{α:Type}(L:List (List α))(k:Nat):List α:=(L.take k).flatten
theorem iR{α:Type}(L:List (List α))(k:Nat)(h:k<L.length):fR L (k+1)=fR L k++L.getD k []:=by
 unfold fR;rw [List.take_succ_eq_append_getElem h,List.flatten_append]
 simp [List.getD,List.getElem?_eq_getElem h]
theorem vX{α:Type}(L:List (List α)):∀ k,k<=L.length->(fR L k).length<=(fR L L.length).length:=by
 have h:∀ d k,k+d=L.length->(fR L k).length<=(fR L L.length).length:=by
  intro d
  induction d with
  |zero =>
   intro k e;have:k=L.length:=by omega
   subst this;exact Nat.le_refl _
  |succ d ih =>
   intro k e;have h1:=ih (k+1) (by omega);rw [iR L k (by omega),List.length_append] at h1;omega
 intro k hk;exact h (L.length - k) k (by omega)
theorem m3{α:Type}(L:List (List α)):fR L L.length=L.flatten:=by unfold fR;rw [List.take_length]
theorem xC{w:World}{ao:Option Addr}{n cap:Nat}{xs:List Int}{K:Nat}(h:yH w (.slice ao n cap) (bK xs K))(k:Nat)(hk:k<K) :
  ∃ b off,ao=some ⟨b,off,none⟩/\b<w.heap.size/\w.cell? ⟨b,off+k * 5,none⟩=some (.int .i32 (cO xs (cx xs k)).1)/\w.cell? ⟨b,off+k * 5+1,none⟩=some (.int .i64 (cO xs (cx xs k)).2.1) /\
   w.cell? ⟨b,off+k * 5+2,none⟩=some (.int .i64 (cO xs (cx xs k)).2.2.1)/\w.cell? ⟨b,off+k * 5+3,none⟩=some (.int .i64 (cO xs (cx xs k)).2.2.2.1)/\w.cell? ⟨b,off+k * 5+4,none⟩=some (.bool (cO xs (cx xs k)).2.2.2.2):=by
 obtain ⟨ao',cap',he,hc⟩:=h
 cases he
 have GN:k<(bK xs K).length:=by rw [em];exact hk
 have hx:(bK xs K)[k]=cO xs (cx xs k):=by
  have:=nj xs K k hk;rw [List.getElem?_eq_getElem GN] at this;exact Option.some.inj this
 have:=hc k GN;rw [hx] at this;exact this
end Go.Proofs.YtoeggiplcaegoaaGreatDoor
