import Derived.Test.YtoeggiplcaegoaaGreatDoorZ0
import Derived.Test.YtoeggiplcaegoaaGreatDoorCellP
import Derived.Test.YtoeggiplcaegoaaGreatDoorMg1
import Derived.Test.YtoeggiplcaegoaaGreatDoorErrS
import Derived.Deep.Cut
import Derived.Deep.CutRange
import Derived.Deep.MidRow
import Derived.Lib.AppendZeros
import Derived.Test.YtoeggiplcaegoaaGreatDoorUallP
import Derived.Test.YtoeggiplcaegoaaGreatDoorMg2
import Derived.Test.YtoeggiplcaegoaaGreatDoorMg5
import Derived.Lib.MinMax
import Derived.Laws.MakeOwn
set_option maxRecDepth 100000
set_option linter.unusedVariables false
set_option linter.unusedSimpArgs false
set_option maxHeartbeats 2000000
namespace Go.Proofs.YtoeggiplcaegoaaGreatDoor
open Go.RowKit Go.ChangeShapes Go.WideShapes
theorem HeldE.ownedInts{B:Nat}{w:World}{n:Nat}{v:Value}{ty:TypeId}{xs:List Int}(h:w.ownsRow B ty 1 v n (xs.map (Value.int .i32))):HeldE (aF .i32) (fun b=>B<=b) w v xs:=(dM (Z:=fun b=>B<=b) h).held fun _ hb _=>hb
def zp(w:World)(K:Int)(T:List Int)(e:Ending)(w':World):Prop:=∃ tv',e=.returned (.agg #[.int .i64 K,tv'])/\HeldE (aF .i32) (fun b=>w.heap.size<=b) w' tv' T/\Below w.heap.size w w'
def xE(w:World)(K:Int)(T:List Int)(e:Ending)(w':World):Prop:=∃ tv',e=.returned (.agg #[.int .i64 K,tv'])/\OwnE (aF .i32) (fun _=>True) w' w.heap.size 21 tv' T/\Below w.heap.size w w'
theorem OwnE.heldInts{B:Nat}{w:World}{Z:an}{v:Value}{ty:TypeId}{xs:List Int}(h:OwnE (aF .i32) Z w B ty v xs):HeldE (aF .i32) (fun b=>B<=b) w v xs:=HeldE.ownedInts h.ints
theorem OwnE.anyInts{B:Nat}{w:World}{Z Y:an}{v:Value}{ty:TypeId}{xs:List Int}(h:OwnE (aF .i32) Z w B ty v xs):OwnE (aF .i32) Y w B ty v xs:=dM h.ints
theorem lZ(K:Int)(tv:Value)(T:List Int)(w:World)(ht:Held .i32 w tv T)(hl:T.length<=1000000000):Calls Tryz.prog 153 #[.agg #[.int .i64 K,tv]] w (xE w K T):=by
 have HT:=ab ht;obtain ⟨ao,cap,rfl,_⟩:=ht.view;clear ht;obtain ⟨w2,hw2⟩:=ae ((w.alloc (.cells #[.int .i64 K,.slice ao T.length cap] 147)).alloc (.cells #[.int .i64 0,.slice none 0 0] 147));have hb2:Below w.heap.size w w2:=by rw [hw2];exact (AU _ _).alloc (by simp) _
 have hs2:w2.heap.size=w.heap.size+2:=by rw [hw2];simp
 have hg:Has w2 w.heap.size [.int .i64 K,.slice ao T.length cap] 147:=by rw [hw2];exact (Has.new w _ _).alloc _
 have hr:Has w2 (w.heap.size+1) [.int .i64 0,.slice none 0 0] 147:=by
  rw [hw2];have:=Has.new (w.alloc (.cells #[.int .i64 K,.slice ao T.length cap] 147)) [.int .i64 0,.slice none 0 0] 147;rw [World.size_alloc] at this;exact this
 have BY:=ab hb2;have D0:=ab hs2;have HG:=ab hg;have HRR:=ab hr;have HC:=ab (lI _ T w2 (HT.out.below hb2) hl);rw [hw2] at HC;have IG:=ab hw2;clear hw2 hb2 hs2 hg hr
 go_enter Tryz.func153,Tryz.ntmps153
 go_wp2_with fail
 refine HC.out.mono ?_;rintro e w3 ⟨v5,rfl,Dd,b5⟩;rw [<-IG.out] at Dd b5;have hs3:w.heap.size+2<=w3.heap.size:=by rw [<-D0.out];exact b5.size
 have g3:=HG.out.below b5 HG.out.lt;have r3:=HRR.out.below b5 HRR.out.lt;have c0:=g3.cell 0 _ rfl;have c1:=g3.cell 1 _ rfl;have f0:=g3.free 0;have f1:=g3.free 1;have d0:=r3.cell 0 _ rfl;have d1:=r3.cell 1 _ rfl;have e0:=r3.free 0;have e1:=r3.free 1;have HO:=ab (dM (Z:=fun _=>False) Dd);have HH:=ab (HeldE.ownedInts Dd);have BZ:=ab (BY.out.trans (b5.mono BY.out.size));have DF:=ab hs3;obtain ⟨a5,c5,e5⟩:=HH.out.len;clear Dd b5 g3 r3 hs3;subst e5;go_wp2;refine bodyPost_ret (v:=.agg #[.int .i64 K,.slice a5 T.length c5]) (by simp [results,Tryz.results153,go_sem,c0,c1,f0,f1,d0,d1,e0,e1]) rfl ⟨_,rfl,?_,?_⟩
 ·exact OwnE.anyInts (OwnE.base (OwnE.upd HO.out (((((Upd.refl (fun b=>b<w.heap.size+2) w3).setCell (.inl (by simp)) _).setCell (.inl (by simp)) _).setCell (.inl (by simp)) _)) (fun b h k=>by
   rcases h with h | h
   ·exact h
   ·have:=(HO.out.lt b h).1;rw [D0.out] at this;omega)) (by rw [D0.out];omega))
 ·exact (((BZ.out.setCell (by simp) _).setCell (by simp) _).setCell (by simp) _)
theorem l6(K:Int)(tv:Value)(T:List Int)(w:World)(ht:Held .i32 w tv T)(hl:T.length<=1000000000):Calls Tryz.prog 153 #[.agg #[.int .i64 K,tv]] w (zp w K T) :=
 (lZ K tv T w ht hl).mono fun _ _ ⟨v,e,h,b⟩=>⟨v,e,h.heldInts,b⟩
theorem OwnE.some{α:Type}{E:Elem α}{Z:an}{w:World}{B:Nat}{ty:TypeId}{v:Value}{L:List α}(h:OwnE E Z w B ty v L)(hl:0<L.length):∃ g cap,v=.slice (some ⟨g,0,none⟩) L.length cap/\B<=g/\g<w.heap.size:=by
 obtain ⟨CS,h1,_⟩:=h
 rcases h1.2 with ⟨rfl,h0⟩ | ⟨g,cap,cur,rfl,hB,hg,_⟩
 ·omega
 ·exact ⟨g,cap,rfl,hB,(Array.getElem?_eq_some_iff.1 hg).1⟩
theorem OwnE.zone{α:Type}{E:Elem α}{Z Y:an}{w:World}{B:Nat}{ty:TypeId}{v:Value}{L:List α}(h:OwnE E Z w B ty v L)(hy:∀ b,b<w.heap.size->Z b->Y b):OwnE E Y w B ty v L:=h.keep (.refl _ _) hy
theorem qg(v:Value)(L:List Cl)(w:World)(hv:HeldE cellE (fun b=>b<w.heap.size) w v L)(hl:L.length<=1000000):Calls Tryz.prog 193 #[v] w (fp cellE (fun b=>b<w.heap.size) 147 w L):=by
 obtain ⟨ao,cap,rfl⟩:=hv.len
 cases ao with
 |none =>
  obtain ⟨rfl,_,rfl⟩:=hv.nilL;clear hv;have q:=fun w=>run_eql_slice_nil (P:=Tryz.prog) w 102 147 none 0 0 Tryz.underlying102
  go_enter Tryz.func193,Tryz.ntmps193
  go_wp2;go_ret;exact ⟨_,rfl,OwnE.nil _ _ _ _ _,Below.refl _ _⟩
 |some a =>
  have hb:=AU w (.cells #[] 147);have HE:=ab (OwnE.fresh0 (E:=cellE) (Z:=fun b=>b<w.heap.size) w 147 (Nat.le_refl w.heap.size));have BJ:=HE.out.lt;have HU:=ab (show HeldE cellE (fun b=>b<w.heap.size/\_≠some b) _ _ L from (hv.below hb).zone (fun b _ hz=>⟨hz,fun e=>by have:=(BJ b e).1;omega⟩));have HB:=ab hb;clear hv hb BJ;have q:=fun w=>run_eql_slice_nil (P:=Tryz.prog) w 102 147 (some a) L.length cap Tryz.underlying102
  go_enter Tryz.func193,Tryz.ntmps193
  go_wp2_with (at_builtin;refine ax (E:=cellE) (Z:=fun b=>b<w.heap.size) rfl (.tmp 5) (.tmp 6) 102 rfl (.agg #[.int .i64 0,.slice none 0 0]) 32 Tryz.underlying102 cF rfl (by decide) rfl rfl HE.out HU.out (by simp;omega) (by simp;omega) HB.out.size ?_)
  intro v2 w2 BE hb2 _ _;have H2:=ab BE;have B2:=ab (HB.out.trans hb2);clear BE hb2;go_wp2;go_ret;exact ⟨_,rfl,by simpa using H2.out,B2.out⟩
theorem xD{α:Type}(l:List α)(d:α)(k:Nat)(h:k<l.length):l.set k (l.getD k d)=l:=by
 apply List.ext_getElem?
 intro i
 by_cases e:i=k
 ·subst e;rw [List.getElem?_set_self h]
  simp [List.getD,List.getElem?_eq_getElem h]
 ·rw [List.getElem?_set_ne (Ne.symm e)]
theorem qh(Z:an)(v:Value)(L:List Cl)(w:World)(hv:HeldE cellE Z w v L)(hl:L.length<=1000000)(ht:∀ k,k<L.length->(L.getD k zc).2.length<=1000000000) :
  Calls Tryz.prog 135 #[v] w (fp cellE (fun b=>w.heap.size<=b) 147 w L):=by
 have HC:=ab (qg v L w hv.lower hl);have HT:=ab ht;obtain ⟨ao,cap,rfl⟩:=hv.len;clear hv ht
 by_cases h0:L.length=0
 ·obtain rfl:L=[]:=List.eq_nil_of_length_eq_zero h0;clear h0 hl
  go_enter Tryz.func135,Tryz.ntmps135
  go_wp2_with fail
  refine HC.out.mono ?_;rintro e w1 ⟨v1,rfl,BX,b1⟩;obtain ⟨a1,c1,rfl⟩:=((BX.zone (Y:=fun _=>True) (fun _ _ _=>trivial)).held (fun _ _ _=>trivial)).len;have HO:=ab (OwnI.all (Z:=fun b=>w.heap.size<=b) BX.each (fun i b hi=>absurd hi (Nat.not_lt_zero _)));have HB:=ab b1;clear BX b1;simp only [List.length_nil];go_wp2
  go_loopw [9] (fun i wr=>i=.int .i64 0/\wr=w1) (fun i _=>0)
  case atStart=>exact ⟨rfl,(by first | rfl | trivial)⟩
  case round =>
   obtain ⟨rfl,Oj⟩:=hrel;subst Oj;go_wp2;go_ret;exact ⟨_,rfl,HO.out,HB.out⟩
 ·have Dt:0<L.length:=by omega
  clear h0
  go_enter Tryz.func135,Tryz.ntmps135
  go_wp2_with fail
  refine HC.out.mono ?_;rintro e w1 ⟨v1,rfl,BX,b1⟩;obtain ⟨g,c1,rfl,hg1,hg2⟩:=BX.some Dt;have Cg:=ab BX;have Bt:=ab b1;clear BX b1 HC;go_wp2
  go_loopw [9] (fun i wr=>∃ k:Nat,k<=L.length/\i=.int .i64 k/\OwnI cellE (fun j=>if j<k then (fun b=>w.heap.size<=b) else (fun b=>b<w.heap.size)) wr w.heap.size 147 (.slice (some ⟨g,0,none⟩) L.length c1) L/\Below w.heap.size w wr) (fun i _=>L.length - (intOf i).toNat)
  case atStart=>exact ⟨0,Nat.zero_le _,rfl,Cg.out.each.keep (.refl _ _) (fun i b _ _ h=>h),Bt.out⟩
  case round =>
   obtain ⟨k,hk,rfl,hown,AY⟩:=hrel;have Bf:=ab AY;clear AY
   by_cases hlt:k<L.length
   ·have E7:=HT.out k hlt;have hs:=xD L zc k hlt;obtain ⟨C,hC,hr⟩:=hown.at hlt;obtain ⟨tv,rfl,hh⟩:=cell_rep.1 hr;have hh:HeldE (aF .i32) _ wr tv (L.getD k zc).2:=hh;have q0:wr.cell? ⟨g,k * 2,none⟩=some (.int .i64 (L.getD k zc).1):=(hC 0 (by decide)).1;have q1:wr.cell? ⟨g,k * 2+1,none⟩=some tv:=(hC 1 (by decide)).1;have hglt:g<wr.heap.size:=(hown.lt g rfl).2;obtain ⟨⟨K,T⟩,EV⟩ : ∃ y,y=L.getD k zc:=⟨_,rfl⟩;rw [<-EV] at q0 hh hs E7;simp only at q0 hh E7;have HH:=ab hh.ints;have HS:=ab hs;have HOW:=ab hown;clear hown hC hr EV hh hs;obtain ⟨tz9,tc,rfl,_⟩:=HH.out.view;have hb1:=AU wr (.cells #[.int .i64 K,.slice tz9 T.length tc] 147);have Jp:=ab (l6 K _ T _ (HH.out.below hb1) E7);have Dj:=ab hb1;clear hb1
    go_wp2_with fail
    refine Jp.out.mono ?_;rintro e w3 ⟨v3,rfl,Dl,b3⟩;have hb4:Below wr.heap.size wr w3:=Dj.out.trans (b3.mono Dj.out.size);have FQ:=ab (HOW.out.below hb4);have CJ:=ab (Bf.out.trans (hb4.mono Bf.out.size));have IZ:=ab (show cellE.rep (fun b=>w.heap.size<=b/\b≠g) w3 [.int .i64 K,v3] (K,T) from cell_rep.2 ⟨_,rfl,Dl.zone (fun b _ h=>by have:=Bf.out.size;simp only [World.size_alloc] at h;exact ⟨by omega,by omega⟩)⟩);obtain ⟨a3,c3,rfl⟩:=Dl.len;clear Dl b3 hb4 q0 q1
    go_wp2_with (refine eP (E:=cellE) (Y:=fun b=>w.heap.size<=b) (i:=k) rfl 147 (.tmp 18) (.tmp 17) rfl rfl rfl [.int .i64 K,.slice a3 T.length c3] rfl (by kernel_rfl) FQ.out hlt (K,T) IZ.out ?_)
    intro w4 Ka Fh;rw [HS.out] at Ka;have MO:=ab (Ka.keep (Yi:=fun j=>if j<k+1 then (fun b=>w.heap.size<=b) else (fun b=>b<w.heap.size)) (.refl _ _) (fun i b _ _ h=>by
     by_cases e:i=k
     ·subst e;simp at h;simpa using h
     ·simp only [if_neg e] at h
      by_cases e2:i<k
      ·simp only [if_pos e2] at h;simp only [if_pos (show i<k+1 by omega)];exact h
      ·simp only [if_neg e2] at h;simp only [if_neg (show ¬ i<k+1 by omega)];exact h))
    have Ep:=ab (CJ.out.upd Fh CJ.out.size (fun x e=>by omega));clear Ka Fh;go_wp2
    go_roundw
    case rel=>exact ⟨k+1,by omega,by go_num,MO.out,Ep.out⟩
    case measure=>simp [intOf] <;> omega
   ·obtain rfl:k=L.length:=by omega
    have HO:=ab (OwnI.all (Z:=fun b=>w.heap.size<=b) hown (fun i b hi _ h=>by simpa [hi] using h));clear hown;go_wp2;go_ret;exact ⟨_,rfl,HO.out,Bf.out⟩
section
def RowAt(Z:an)(w:World)(B g gc:Nat)(L:List Cl)(wrap:Bool):Prop :=
 ∃ cap,Has w g [.slice (some ⟨gc,0,none⟩) L.length cap,.bool wrap] 187/\B<=g/\gc≠g/\OwnE cellE (fun b=>Z b/\b≠g) w B 147 (.slice (some ⟨gc,0,none⟩) L.length cap) L/\0<L.length/\L.length<=1024/\bz L=true
section
variable {Z Y S : an} {w w' : World} {B g gc : Nat} {L : List Cl} {wrap : Bool}
theorem RowAt.lt(h:RowAt Z w B g gc L wrap):g<w.heap.size/\gc<w.heap.size/\B<=gc/\B<=g:=by
 obtain ⟨cap,h1,h2,h3,h4,h5,_⟩:=h;exact ⟨h1.lt,(h4.lt gc rfl).2,(h4.lt gc rfl).1,h2⟩
theorem RowAt.keep(h:RowAt Z w B g gc L wrap)(hk:KeepZ (fun b=>Z b\/b=g\/b=gc) w w')(hy:∀ b,b<w.heap.size->Z b->Y b):RowAt Y w' B g gc L wrap:=by
 obtain ⟨cap,h1,h2,h3,h4,h5⟩:=h;refine ⟨cap,hk.has h1 (.inr (.inl rfl)),h2,h3,h4.keep (hk.mono fun b _ hz=>?_) (fun b hb hz=>⟨hy b hb hz.1,hz.2⟩),h5⟩
 rcases hz with hz | hz
 ·exact .inl hz.1
 ·exact .inr (.inr (by simpa [Value.ownBlock] using hz.symm))
theorem RowAt.below(h:RowAt Z w B g gc L wrap)(hb:Below w.heap.size w w'):RowAt Z w' B g gc L wrap:=h.keep (.all hb _) fun _ _ h=>h
theorem RowAt.upd(h:RowAt Z w B g gc L wrap)(hu:Upd S w w')(hz:∀ b,Z b->¬ S b)(hg:¬ S g)(hgc:¬ S gc):RowAt Z w' B g gc L wrap :=
 h.keep (hu.keep.mono fun b _ hb=>by rcases hb with hb | rfl | rfl;exact hz b hb;exact hg;exact hgc) fun _ _ h=>h
theorem RowAt.base(h:RowAt Z w B g gc L wrap){B':Nat}(hb:B'<=B):RowAt Z w B' g gc L wrap:=by
 obtain ⟨cap,h1,h2,h3,h4,h5⟩:=h;exact ⟨cap,h1,by omega,h3,h4.base hb,h5⟩
theorem RowAt.len(h:RowAt Z w B g gc L wrap):0<L.length/\L.length<=1024/\bz L=true:=by
 obtain ⟨cap,_,_,_,_,h5⟩:=h;exact h5
theorem RowAt.held(h:RowAt Z w B g gc L wrap):∃ cap,Has w g [.slice (some ⟨gc,0,none⟩) L.length cap,.bool wrap] 187/\HeldE cellE (fun b=>True) w (.slice (some ⟨gc,0,none⟩) L.length cap) L:=by
 obtain ⟨cap,h1,h2,h3,h4,h5⟩:=h;exact ⟨cap,h1,(h4.zone (Y:=fun _=>True) (fun _ _ _=>trivial)).held fun _ _ _=>trivial⟩
end
theorem qc{L:List Cl}(h:bz L=true):∀ k,k<L.length->ce (L.getD k zc)=true:=by
 intro k hk;rw [mW] at h;have:=oK hk h;unfold oJ at this;simp only [Bool.and_eq_true] at this;exact this.1.1
theorem qd{c:Cl}(h:ce c=true):c.2.length<=16:=by
 obtain ⟨k,t⟩:=c;unfold ce at h
 split at h
 ·simp at h;simp [h]
 ·simp only [Bool.and_eq_true,decide_eq_true_eq] at h;exact h.1.2
theorem hJ{L:List Cl}(h:bz L=true):∀ k,k<L.length->(L.getD k zc).2.length<=1000000000:=fun k hk=>by have:=qd (qc h k hk);omega
def zk(Z:an)(w:World)(L:List Cl)(wrap:Bool)(e:Ending)(w':World):Prop:=∃ g gc,e=.returned (.pointer (some ⟨g,0,none⟩))/\RowAt Z w' w.heap.size g gc L wrap/\Below w.heap.size w w'
theorem zm{Z:an}{w:World}{B:Nat}{v:Value}{L:List Cl}{wrap:Bool}(h:OwnE cellE Z w B 147 v L)(hB:B<=w.heap.size)(h0:0<L.length)(h1:L.length<=1024)(hs:bz L=true):∃ gc,RowAt Z (w.alloc (.cells #[v,.bool wrap] 187)) B w.heap.size gc L wrap:=by
 obtain ⟨gc,cap,rfl,hg1,hg2⟩:=h.some h0;refine ⟨gc,cap,Has.new w _ _,hB,by omega,(h.keep (Y:=fun b=>Z b/\b≠w.heap.size) (.all (AU _ _) _) (fun b hb hz=>⟨hz,by omega⟩)),h0,h1,hs⟩
theorem qe(m:Nat):bz (List.replicate m zc)=true:=by
 unfold bz
 induction m with
 | zero=>rfl
 | succ m ih=>rw [List.replicate_succ];show (true && true && dI false _)=true;rw [ih];rfl
def df(n:Int):Nat:=(min (max n 1) 1024).toNat
theorem rO(n:Int):ki (max n 1)=df n/\0<df n/\df n<=1024/\max 1 (min n 1024)=(df n:Int):=by unfold ki df;omega
theorem qf(Z:an)(n:Int)(w:World):Calls Tryz.prog 155 #[.int .i64 n] w (zk Z w (List.replicate (df n) zc) false):=by
 have HB:=ab (iV Z (max n 1) w);obtain ⟨h1,h2,h3,_⟩:=rO n;rw [h1] at HB;clear h1
 go_enter Tryz.func155,Tryz.ntmps155
 go_wp2_with fail
 refine HB.out.mono ?_;rintro e w1 ⟨v1,rfl,BX,b1⟩;obtain ⟨gc0,cap0,rfl,_,_⟩:=BX.some (by simp;omega);obtain ⟨gc,hr⟩:=zm (wrap:=false) BX b1.size (by simp;omega) (by simp;omega) (qe _);rw [List.length_replicate] at hr ⊢;have HR:=ab hr;have Bt:=ab b1;clear BX b1 hr;go_wp2;go_ret;exact ⟨_,gc,rfl,HR.out,Bt.out.alloc Bt.out.size _⟩
theorem nh(Z:an)(B g gc:Nat)(L:List Cl)(wrap:Bool)(w:World)(h:RowAt Z w B g gc L wrap):Calls Tryz.prog 70 #[.pointer (some ⟨g,0,none⟩)] w fun e w'=>e=.returned (.int .i64 L.length)/\w=w':=by
 obtain ⟨cap,h1,_⟩:=h.held;have c0:=h1.cell 0 _ rfl;clear h h1
 go_enter Tryz.func70,Tryz.ntmps70
 go_wp2;go_ret;exact ⟨rfl,rfl⟩
theorem uD(Z:an)(B g gc:Nat)(L:List Cl)(wrap:Bool)(w:World)(h:RowAt Z w B g gc L wrap):Calls Tryz.prog 63 #[.pointer (some ⟨g,0,none⟩)] w fun e w'=>e=.returned (.bool wrap)/\w=w':=by
 obtain ⟨cap,h1,_⟩:=h.held;have c1:=h1.cell 1 _ rfl;clear h h1
 go_enter Tryz.func63,Tryz.ntmps63
 go_wp2;go_ret;exact ⟨rfl,rfl⟩
theorem rP(Z:an)(B g gc:Nat)(L:List Cl)(wrap:Bool)(w:World)(h:RowAt Z w B g gc L wrap):Calls Tryz.prog 96 #[.pointer (some ⟨g,0,none⟩)] w (fp cellE (fun b=>w.heap.size<=b) 147 w L):=by
 obtain ⟨_,hl,hs⟩:=h.len;obtain ⟨cap,h1,h2⟩:=h.held;have HC:=ab (qh _ _ L w h2 (by omega) (hJ hs));have c0:=h1.cell 0 _ rfl;clear h h1 h2 hs
 go_enter Tryz.func96,Tryz.ntmps96
 go_wp2_with fail
 refine HC.out.mono ?_;rintro e w1 ⟨v1,rfl,BX,b1⟩;go_wp2;go_ret;exact ⟨_,rfl,BX,b1⟩
theorem uE(b:Bool)(w:World):Calls Tryz.prog 71 #[.pointer none,.bool b] w fun e w'=>e=.returned (.tuple #[])/\w=w':=by
 go_enter Tryz.func71,Tryz.ntmps71
 go_wp2;exact bodyPost_end (by kernel_rfl) rfl ⟨rfl,rfl⟩
def ni(Z:an)(w:World)(B g gc:Nat)(L:List Cl)(wrap:Bool)(e:Ending)(w':World):Prop:=e=.returned (.tuple #[])/\RowAt Z w' B g gc L wrap/\Upd (fun b=>b=g\/b=gc) w w'
theorem uF(Z:an)(B g gc:Nat)(L:List Cl)(wrap b:Bool)(w:World)(h:RowAt Z w B g gc L wrap):Calls Tryz.prog 71 #[.pointer (some ⟨g,0,none⟩),.bool b] w (ni Z w B g gc L b):=by
 obtain ⟨cap,h1,h2,h3,h4,h5⟩:=h;have hu:=(Upd.refl (fun b=>b=g) w).setCell (p:=⟨g,1,none⟩) (.inl rfl) (.bool b);have hp:ni Z w B g gc L b (.returned (.tuple #[])) (w.setCell ⟨g,1,none⟩ (.bool b)):=by
  refine ⟨rfl,⟨cap,?_,h2,h3,h4.upd hu (fun b hb=>?_),h5⟩,hu.mono fun b _ h=>.inl h⟩
  ·have:=h1.set 1 (.bool b)
   simpa using this
  ·rcases hb with hb | hb
   ·exact hb.2
   ·have:gc=b:=by simpa [Value.ownBlock] using hb
    subst this;exact h3
 have HP:=ab hp;have c1:=h1.cell 1 _ rfl;have f1:=h1.free 1;clear h1 h2 h3 h4 h5 hu hp
 go_enter Tryz.func71,Tryz.ntmps71
 go_wp2;exact bodyPost_end (by kernel_rfl) rfl HP.out
def zn(w:World)(c:Cl)(e:Ending)(w':World):Prop:=∃ tv,e=.returned (.tuple #[.agg #[.int .i64 c.1,tv],.bool true])/\HeldE (aF .i32) (fun b=>w.heap.size<=b) w' tv c.2/\Below w.heap.size w w'
def zo(w:World)(c:Cl)(e:Ending)(w':World):Prop:=∃ tv,e=.returned (.tuple #[.agg #[.int .i64 c.1,tv],.bool true])/\OwnE (aF .i32) (fun _=>True) w' w.heap.size 21 tv c.2/\Below w.heap.size w w'
theorem uG(Z:an)(B g gc:Nat)(L:List Cl)(wrap:Bool)(i:Nat)(w:World)(h:RowAt Z w B g gc L wrap)(hi:i<L.length):Calls Tryz.prog 85 #[.pointer (some ⟨g,0,none⟩),.int .i64 i] w (zo w (L.getD i zc)):=by
 obtain ⟨w1,Da⟩:=ae (w.alloc (.cells #[.int .i64 0,.slice none 0 0] 147));have hb:Below w.heap.size w w1:=by rw [Da];exact AU w _
 have hr1:Has w1 w.heap.size [.int .i64 0,.slice none 0 0] 147:=by rw [Da];exact Has.new w _ _
 have h1:=h.below hb;obtain ⟨_,hl,hs⟩:=h.len;have E7:=hJ hs i hi;obtain ⟨cap,h2,h3⟩:=h1.held;obtain ⟨_,_,hc⟩:=fq h3;obtain ⟨b,off,tv,e,hbl,_,c0,c1,ht⟩:=hc i hi
 cases e
 simp only [Nat.zero_add] at c0 c1;have k0:=h2.cell 0 _ rfl;obtain ⟨⟨K,T⟩,EV⟩ : ∃ y,y=L.getD i zc:=⟨_,rfl⟩;rw [<-EV] at c0 ht E7 ⊢;simp only at c0 ht E7;have Jp:=ab (lZ K tv T w1 ht.ints E7);have HW:=ab (nh Z B g gc L wrap w1 h1);have HB:=ab hb;have HR:=ab hr1;have hs1:w1.heap.size=w.heap.size+1:=by rw [Da];simp
 have IP:=ab hs1;have HT:=ab ht;obtain ⟨tz9,tc,rfl⟩:=ht.len;subst Da;have hlt:=hi;clear h h1 h2 h3 hc hs EV hb hr1 hs1 ht
 go_enter Tryz.func85,Tryz.ntmps85
 go_wp2_with fail
 refine HW.out.mono ?_;rintro e w2 ⟨rfl,rfl⟩
 go_wp2_with fail
 refine Jp.out.mono ?_;rintro e w3 ⟨v3,rfl,Dl,b3⟩;have r3:=HR.out.below b3 HR.out.lt;have hs3:w.heap.size+1<=w3.heap.size:=by rw [<-IP.out];exact b3.size
 have d0:=r3.cell 0 _ rfl;have d1:=r3.cell 1 _ rfl;have e0:=r3.free 0;have e1:=r3.free 1;have HO:=ab (Dl.anyInts (Y:=fun _=>False));have CJ:=ab (HB.out.trans (b3.mono HB.out.size));have DF:=ab hs3;obtain ⟨a3,c3,e5⟩:=Dl.heldInts.len;clear Dl b3 r3 hs3 c0 c1 k0;subst e5;go_wp2;refine bodyPost_ret (v:=.tuple #[.agg #[.int .i64 K,.slice a3 T.length c3],.bool true]) (by simp [results,Tryz.results85,go_sem,d0,d1,e0,e1]) rfl ⟨_,rfl,?_,?_⟩
 ·exact OwnE.anyInts (OwnE.base (OwnE.upd HO.out ((((Upd.refl (fun b=>b<w.heap.size+1) w3).setCell (.inl (by simp)) _).setCell (.inl (by simp)) _)) (fun b h k=>by
   rcases h with h | h
   ·exact h
   ·have:=(HO.out.lt b h).1;rw [IP.out] at this;omega)) (by rw [IP.out];omega))
 ·exact ((CJ.out.setCell (by simp) _).setCell (by simp) _)
theorem xC(Z:an)(B g gc:Nat)(L:List Cl)(wrap:Bool)(i:Nat)(w:World)(h:RowAt Z w B g gc L wrap)(hi:i<L.length):Calls Tryz.prog 85 #[.pointer (some ⟨g,0,none⟩),.int .i64 i] w (zn w (L.getD i zc)) :=
 (uG Z B g gc L wrap i w h hi).mono fun _ _ ⟨v,e,h,b⟩=>⟨v,e,h.heldInts,b⟩
end
section
section
variable (sa : Nat → Addr) (Y : an) (L : List Cl) (v : Value) (w : World)
end
end
section
def Mid(Z:an)(w wx:World)(B g gc n cap:Nat)(L1:List Cl)(wrap:Bool):Prop :=
 L1.length=n/\Has wx g [.slice (some ⟨gc,0,none⟩) n cap,.bool wrap] 187/\OwnE cellE (fun b=>Z b/\b≠g) wx B 147 (.slice (some ⟨gc,0,none⟩) n cap) L1/\Upd (fun b=>b=g\/b=gc) w wx
section
variable {Z : an} {w wx wy : World} {B g gc n cap : Nat} {L1 : List Cl} {wrap : Bool}
theorem Mid.row(h:Mid Z w wx B g gc n cap L1 wrap):wx.cell? ⟨g,0,none⟩=some (.slice (some ⟨gc,0,none⟩) n cap):=h.2.1.cell 0 _ rfl
theorem Mid.kind(h:Mid Z w wx B g gc n cap L1 wrap){i:Nat}(hi:i<n):wx.cell? ⟨gc,i * 2,none⟩=some (.int .i64 (L1.getD i zc).1):=by
 obtain ⟨C,hC,hr⟩:=h.2.2.1.each.at (i:=i) (by rw [h.1];exact hi);obtain ⟨tv,rfl,_⟩:=cell_rep.1 hr;exact (hC 0 (by decide)).1
theorem Mid.below(h:Mid Z w wx B g gc n cap L1 wrap)(hb:Below wx.heap.size wx wy):Mid Z w wy B g gc n cap L1 wrap :=
 ⟨h.1,h.2.1.below hb h.2.1.lt,h.2.2.1.below hb,h.2.2.2.trans (.ofBelow hb)⟩
theorem Mid.drew(h:Mid Z w wx B g gc n cap L1 wrap):Mid Z w wx.drew B g gc n cap L1 wrap:=h.below (Below.refl _ _).drew
theorem Mid.put(h:Mid Z w wx B g gc n cap L1 wrap)(hne:gc≠g){i:Nat}(_hi:i<n){z:Cl}{w':World}{n':Nat}(hn:n'=n)
  {Zi:Nat->an} (ho:OwnI cellE Zi w' B 147 (.slice (some ⟨gc,0,none⟩) n' cap) (L1.set i z)) (hz:∀ j b,Zi j b->Z b/\b≠g) (hu:Upd (fun b=>b=gc) wx w'):Mid Z w w' B g gc n cap (L1.set i z) wrap:=by
 subst hn;exact ⟨by rw [List.length_set];exact h.1,(hu.keep.has h.2.1 (Ne.symm hne)),ho.all (fun j b _ _ k=>hz j b k),h.2.2.2.trans (hu.mono fun b _ e=>.inr e)⟩
theorem Mid.setWrap(h:Mid Z w wx B g gc n cap L1 wrap)(hne:gc≠g)(b:Bool):Mid Z w (wx.setCell ⟨g,1,none⟩ (.bool b)) B g gc n cap L1 b:=by
 have hu:=(Upd.refl (fun b=>b=g) wx).setCell (p:=⟨g,1,none⟩) (.inl rfl) (.bool b);refine ⟨h.1,by simpa using h.2.1.set 1 (.bool b),h.2.2.1.upd hu (fun b hb=>?_),h.2.2.2.trans (hu.mono fun b _ e=>.inl e)⟩
 rcases hb with hb | hb
 ·exact hb.2
 ·have:gc=b:=by simpa [Value.ownBlock] using hb
  subst this;exact hne
theorem Mid.done(h:Mid Z w wx B g gc n cap L1 wrap)(hB:B<=g)(hne:gc≠g)(h0:0<n)(h1:n<=1024)(hs:bz L1=true):RowAt Z wx B g gc L1 wrap:=by
 obtain ⟨h2,h3,h4,_⟩:=h;subst h2;exact ⟨cap,h3,hB,hne,h4,h0,h1,hs⟩
end
theorem ia{P:Program}{ρ:Operand->Value}{o:Oper}{w:World}{ty:TypeId}{x y:Operand}{b off:Nat}(ho:o.op=.store ty x y)(hx:ρ x=.pointer (some ⟨b,off,none⟩))(C:List Value)(hy:ρ y=.agg C.toArray)(ht:w.there b off C.length)
  (hi:(P.info? ty).map (·.size)=some C.length) (h1:∀ v ∈ C,v.oneCell'=true):(execOp ρ o).run P w=.ok .skip (w.setCells b off C):=by
 have:=run_storeAt_mid (P:=P) w b off ty C.toArray (by simpa using ht) (by simpa using hi) (all_oneCell_toArray h1);unfold execOp;simp only [ho,hx,hy,Sem.run_bind,this,Result.andThen_ok,Sem.run_pure]
section
variable (sa : Nat → Addr) (Z Y : an) (B g gc : Nat) (L p : List Cl) (wrap : Bool) (at_ : Int) (v : Value) (w : World)
def jA(L':List Cl)(wrap':Bool)(e:Ending)(w':World):Prop:=e=.returned .nilIface/\RowAt Z w' B g gc L' wrap'/\Upd (fun b=>b=g\/b=gc) w w'
theorem qi(h:RowAt Z w B g gc L wrap)(hv:HeldE cellE Y w v [])(a:Nat)(hle:a<=L.length):Calls Tryz.prog 188 #[.pointer (some ⟨g,0,none⟩),.int .i64 a,v] w (jA Z B g gc w L wrap):=by
 obtain ⟨_,hl,_⟩:=h.len;obtain ⟨cap,h1,_⟩:=h.held;have c0:=h1.cell 0 _ rfl;have H:=ab h;have EY:=ab (nm _ _ _ _ hv);rw [show bz []=true from rfl] at EY;obtain ⟨ao,pc,rfl⟩:=hv.len;simp only [List.length_nil] at EY ⊢;clear h h1 hv;have hD2:¬ ((L.length:Int) - (a:Int)<0):=by omega
 go_enter Tryz.func188,Tryz.ntmps188
 go_wp2_with fail
 refine EY.out.mono ?_;rintro e w2 ⟨rfl,b2⟩;go_wp2;go_ret;exact ⟨af,H.out.below b2,.ofBelow b2⟩
end
end
def f8{α:Type}(L:List (List α))(k:Nat):List α:=(L.take k).flatten
theorem iY{α:Type}(L:List (List α))(k:Nat)(h:k<L.length):f8 L (k+1)=f8 L k++L.getD k []:=by
 unfold f8;rw [List.take_succ_eq_append_getElem h,List.flatten_append]
 simp [List.getD,List.getElem?_eq_getElem h]
theorem xK{α:Type}(L:List (List α)):∀ k,k<=L.length->(f8 L k).length<=(f8 L L.length).length:=by
 have h:∀ d k,k+d=L.length->(f8 L k).length<=(f8 L L.length).length:=by
  intro d
  induction d with
  |zero =>
   intro k e;have:k=L.length:=by omega
   subst this;exact Nat.le_refl _
  |succ d ih =>
   intro k e;have h1:=ih (k+1) (by omega);rw [iY L k (by omega),List.length_append] at h1;omega
 intro k hk;exact h (L.length - k) k (by omega)
theorem nr{α:Type}(L:List (List α)):f8 L L.length=L.flatten:=by unfold f8;rw [List.take_length]
theorem qQ{w w':World}{v:Value}{l:List G5}(h:sX w v l)(hb:Below w.heap.size w w'):sX w' v l:=by
 obtain ⟨ao,cap,rfl,hc⟩:=h;refine ⟨ao,cap,rfl,fun i hi=>?_⟩;obtain ⟨b,off,rfl,hlt,c0,c1,c2,c3,c4⟩:=hc i hi;exact ⟨b,off,rfl,by have:=hb.size;omega,(hb.cell (p:=⟨b,off+i * 5,none⟩) hlt).trans c0,(hb.cell (p:=⟨b,off+i * 5+1,none⟩) hlt).trans c1,(hb.cell (p:=⟨b,off+i * 5+2,none⟩) hlt).trans c2,(hb.cell (p:=⟨b,off+i * 5+3,none⟩) hlt).trans c3,(hb.cell (p:=⟨b,off+i * 5+4,none⟩) hlt).trans c4⟩
theorem qR{w:World}{ao:Option Addr}{n cap:Nat}{xs:List Int}{K:Nat}(h:sX w (.slice ao n cap) (bI xs K))(k:Nat)(hk:k<K) :
  ∃ b off,ao=some ⟨b,off,none⟩/\b<w.heap.size/\w.cell? ⟨b,off+k * 5,none⟩=some (.int .i32 (cO xs (bZ xs k)).1)/\w.cell? ⟨b,off+k * 5+1,none⟩=some (.int .i64 (cO xs (bZ xs k)).2.1) /\
   w.cell? ⟨b,off+k * 5+2,none⟩=some (.int .i64 (cO xs (bZ xs k)).2.2.1)/\w.cell? ⟨b,off+k * 5+3,none⟩=some (.int .i64 (cO xs (bZ xs k)).2.2.2.1)/\w.cell? ⟨b,off+k * 5+4,none⟩=some (.bool (cO xs (bZ xs k)).2.2.2.2):=by
 obtain ⟨ao',cap',he,hc⟩:=h
 cases he
 have Fp:k<(bI xs K).length:=by rw [dK];exact hk
 have hx:(bI xs K)[k]=cO xs (bZ xs k):=by
  have:=nM xs K k hk;rw [List.getElem?_eq_getElem Fp] at this;exact Option.some.inj this
 have:=hc k Fp;rw [hx] at this;exact this
theorem gj{w:World}{B B' e size n:Nat}{v:Value}{xs:List Value}(h:w.ownsRow B e size v n xs)(hb:B'<=B):w.ownsRow B' e size v n xs:=by
 refine ⟨h.1,?_⟩
 rcases h.2 with hv | ⟨g,cap,cur,rfl,hg,Gs⟩
 ·exact .inl hv
 ·exact .inr ⟨g,cap,cur,rfl,by omega,Gs⟩
theorem qS(v:Value)(xs:List Int)(w:World)(hv:Held .u8 w v xs)(Kh:sZ v)(hm:xs.length<=1000000)(hr:∀ i,i<xs.length->0<=xs.getD i 0/\xs.getD i 0<=255) :
  Calls Tryz.prog 43 #[v] w (zK w xs):=by
 obtain ⟨ao,cap,rfl,_⟩:=id hv.view;have HV:=ab hv;have HC:=ab Kh;have HR:=ab hr;clear hv Kh hr
 go_enter Tryz.func43,Tryz.ntmps43
 go_wp2_with fail
 refine (qI _ xs _ HV.out HC.out hm HR.out).mono ?_;rintro e w1 ⟨K,lv,rfl,hK,hown,b1⟩;have hG:=iK hown;obtain ⟨lo,lc,rfl,_⟩:=id hG;rw [dK] at hG ⊢;have hKl:K<=xs.length:=by rw [<-hK];exact zI xs K
 have HG:=ab hG;have HK:=ab hK;clear hown hG hK;go_wp2
 go_loopw [3,5] (fun o i wr=>∃ k:Nat,k<=K/\i=.int .i64 k/\wr.ownsRow w1.heap.size 21 1 o k ((dm xs k).map (Value.int .i32))/\Below w1.heap.size w1 wr) (fun _ i _=>K - (intOf i).toNat)
 case atStart=>exact ⟨0,Nat.zero_le _,rfl,World.ownsRow_nil _ _ _ _,Below.refl _ _⟩
 case round =>
  obtain ⟨k,hk,rfl,hown,AY⟩:=hrel
  by_cases hlt:k<K
  ·have Db:=gi xs k;obtain ⟨bl,offl,rfl,hbl,c0,_⟩:=qR (qQ HG.out AY) k hlt;obtain ⟨r,hr⟩:=ae ((cO xs (bZ xs k)).1);rw [<-hr] at Db c0;have Fc:=ab Db;clear hr Db
   go_wp2_with (at_builtin;refine bK wr rfl (.tmp 14) (.tmp 20) 27 rfl w1.heap.size 21 (.int .i32 0) 4 Tryz.underlying27 Tryz.info21u rfl u3 k ((dm xs k).map (Value.int .i32)) rfl hown [.int .i32 r] 1 1 rfl rfl (by intro u hu;simp at hu;rcases hu with rfl <;> rfl) (by omega) (by omega) AY.size ?_)
   intro v' w' hown' hb';have CO:w'.ownsRow w1.heap.size 21 1 v' (k+1) ((dm xs (k+1)).map (Value.int .i32)):=by rw [Fc.out,List.map_append];exact hown'
   have hb3:=AY.trans hb';clear hown' hown hb' Fc;go_wp2
   go_roundw
   case rel=>exact ⟨k+1,by omega,by go_num,CO,hb3⟩
   case measure=>simp [intOf] <;> omega
  ·obtain rfl:k=K:=by omega
   have BC:=b1.trans (AY.mono b1.size);have BB:=gj hown b1.size;go_wp2;go_ret;exact ⟨k,_,rfl,HK.out,BB,BC⟩
section
open Go.Sort Go.Lib
theorem vx(k:IntKind)(F:List Int)(cur:Array Value)(h:F.length<=cur.size):(putCells (Value.int k) 0 F.toArray cur).toList.take F.length=F.map (Value.int k):=by
 apply List.ext_getElem?
 intro j
 by_cases hj:j<F.length
 ·rw [List.getElem?_take_of_lt hj,Array.getElem?_toList];have:j<cur.size:=by omega
  simp [putCells,hj,this]
 ·rw [List.getElem?_take_eq_none (by omega),List.getElem?_eq_none (by simp;omega)]
theorem sn{k:IntKind}{w:World}{g m e:Nat}{os:Array Obj}{cur:Array Value}(F:Array Int)(hb:w.heap[g]? = some (.cells cur e (0,0))):(grow (putRow (Value.int k) (Sort.ahead w m) g 0 F) os).heap[g]? = some (.cells (putCells (Value.int k) 0 F cur) e (0,0)):=by
 have hg:=(Array.getElem?_eq_some_iff.1 hb).1;rw [heap_grow_old _ _ (by simpa using hg)]
 simp [putRow,mapBlock,Sort.ahead,Array.getElem?_modify,onCells,hb]
theorem qT{k:IntKind}{w:World}{g m:Nat}{os:Array Obj}(F:Array Int):But g w.heap.size w (grow (putRow (Value.int k) (Sort.ahead w m) g 0 F) os):=by
 refine ⟨rfl,rfl,rfl,by simp,fun j hk hne=>?_⟩;rw [heap_grow_old _ _ (by simpa using hk)]
 simp [putRow,mapBlock,Sort.ahead,Array.getElem?_modify,Ne.symm hne]
def eL(l:List Int):List Int:=l.mergeSort fun x y=>decide (x<=y)
theorem nN(l:List Int):(eL l).length=l.length:=by unfold eL;simp
def zM(w:World)(B:Nat)(v:Value)(n:Nat)(l:List Int)(e:Ending)(w':World):Prop:=e=.returned (.tuple #[])/\w'.ownsRow B 3 1 v n ((eL l).map (Value.int .i64))/\Below B w w'/\∀ g,g<w.heap.size->v.ownBlock≠some g->w'.heap[g]? = w.heap[g]?
theorem vy(v:Value)(l:List Int)(w:World)(B n:Nat)(hn:n=l.length)(hown:w.ownsRow B 3 1 v n (l.map (Value.int .i64)))(hB:B<=w.heap.size)(hl:n<=1000000) :
  Calls Tryz.prog 93 #[v] w (zM w B v n l):=by
 rcases hown.2 with ⟨rfl,h0⟩ | ⟨g,cap,cur,rfl,LH,hh,IR,Cd,hsz,_⟩
 ·have:l=[]:=List.eq_nil_of_length_eq_zero (by omega);subst this h0;refine Calls.mono (slices_Sort_int_none none 0 w) ?_;rintro e w' ⟨rfl,rfl⟩;exact ⟨rfl,by simpa [eL] using hown,Below.refl _ _,fun _ _ _=>rfl⟩
 ·have hgs:g<w.heap.size:=(hown.lt g rfl).2;have hH:Holds (Value.int .i64) w g 0 l.toArray:=by
   intro j hj;have hj':j<l.length:=by simpa using hj
   refine ⟨?_,by rw [Nat.zero_add];exact hown.frozenAt j⟩;rw [Nat.zero_add,hown.cellAt j (by omega)]
   simp [List.getElem?_eq_getElem hj',hj']
  have hcon:=slices_Sort_int g 0 cap l w hH hgs (by omega);rw [<-hn] at hcon;refine Calls.mono hcon ?_;rintro e w' ⟨rfl,m,os,rfl⟩;have KP:(eL l).length=n:=by rw [nN,hn]
  refine ⟨rfl,⟨by simp [KP],.inr ⟨g,cap,_,rfl,LH,sn _ hh,IR,Cd,by simp [putCells,hsz],?_⟩⟩,(qT _).below (by omega) LH,fun k hk hne=>(qT (w:=w) (g:=g) (m:=m) (os:=os) _).block k hk (fun e=>hne (by subst e;rfl))⟩;have:=vx .i64 (eL l) cur (by rw [KP,hsz];omega);rw [KP] at this
  simpa [eL] using this
theorem gK(v:Value)(xs:List Int)(w:World)(hv:Held .u8 w v xs)(hl:xs.length<=1000000) :
  Calls Tryz.prog 94 #[v] w fun e w'=>∃ v',e=.returned v'/\w'.ownsRow w.heap.size 5 1 v' xs.length (xs.map (Value.int .u8))/\Below w.heap.size w w':=by
 obtain ⟨ao,cap,rfl,hn,hc⟩:=hv
 cases ao with
 |none =>
  obtain ⟨rfl,_⟩:=hn rfl;refine Calls.mono (bytes_Clone_nil _ _ w) ?_;rintro e w' ⟨rfl,rfl⟩;exact ⟨_,rfl,World.ownsRow_nil _ _ _ _,Below.refl _ _⟩
 |some a =>
  refine Calls.mono (bytes_Clone_at a xs.length cap xs w rfl (by omega) (fun i hi=>?_)) ?_
  ·obtain ⟨b,off,e,_,h1⟩:=hc i hi
   cases e
   rw [Addr.add_lit];exact h1
  ·rintro e w' ⟨v',rfl,h1,_,h2⟩;exact ⟨v',rfl,h1,h2⟩
def KeepB(w w':World):Prop:=∀ g C ty,ty≠55->Has w g C ty->Has w' g C ty
theorem KeepB.refl(w:World):KeepB w w:=fun _ _ _ _ h=>h
theorem KeepB.trans{a b c:World}(h:KeepB a b)(k:KeepB b c):KeepB a c:=fun g C ty hn hh=>k g C ty hn (h g C ty hn hh)
theorem KeepB.alloc(w:World)(o:Obj):KeepB w (w.alloc o):=fun _ _ _ _ h=>h.alloc o
theorem KeepB.ofBelow{w w':World}(h:Below w.heap.size w w'):KeepB w w':=fun _ _ _ _ hh=>hh.below h hh.lt
theorem yI{w w':World}{B n:Nat}{v:Value}{xs:List Value}(hown:w.ownsRow B 55 1 v n xs)(hk:∀ g,g<w.heap.size->v.ownBlock≠some g->w'.heap[g]? = w.heap[g]?):KeepB w w':=by
 intro g C ty hne h;refine (hk g h.lt fun e=>?_).trans h
 rcases hown.2 with ⟨rfl,_⟩ | ⟨g',cap,cur,rfl,_,hh,_⟩
 ·cases e
 ·have e2:some g'=some g:=e
  cases e2
  unfold Has at h;rw [hh] at h
  cases h
  exact hne rfl
theorem iz{w w':World}{B n:Nat}{v:Value}{xs C0:List Value}(hown:w.ownsRow B 55 1 v n xs)(hk:∀ g,g<w.heap.size->v.ownBlock≠some g->w'.heap[g]? = w.heap[g]?):KeepB (w.alloc (.cells C0.toArray 55)) w':=by
 intro g C ty hne h;have hlt:=h.lt;rw [World.size_alloc] at hlt
 rcases Nat.lt_or_ge g w.heap.size with hg | hg
 ·exact yI hown hk g C ty hne (((AU w (.cells C0.toArray 55)).block g hg).symm.trans h)
 ·obtain rfl:g=w.heap.size:=by omega
  have h2:=Has.new w C0 55;unfold Has at h h2;rw [h2] at h
  cases h
  exact absurd rfl hne
theorem fa{w w':World}{B e size n:Nat}{v:Value}{xs:List Value}(h:w.ownsRow B e size v n xs)(he:e≠55)(hk:KeepB w w'):w'.ownsRow B e size v n xs:=by
 refine ⟨h.1,?_⟩
 rcases h.2 with hv | ⟨g,cap,cur,rfl,hg,hh,Gs⟩
 ·exact .inl hv
 ·have h1:Has w g cur.toList e:=by unfold Has;rw [hh]
  have h2:=hk g _ e he h1;unfold Has at h2;exact .inr ⟨g,cap,cur,rfl,hg,by rw [h2],Gs⟩
def OwnB(w:World)(B:Nat)(v:Value)(n:Nat)(L:List (List Int)):Prop :=
 ∃ us:List Value,w.ownsRow B 55 1 v n us/\L.length=n/\∀ i,i<n->∃ u,us[i]? = some u/\w.ownsRow 0 5 1 u (L.getD i []).length ((L.getD i []).map (Value.int .u8))
def HeldB(w:World)(v:Value)(L:List (List Int)):Prop :=
 ∃ ao cap,v=.slice ao L.length cap/\∀ i,i<L.length->∃ b off u,ao=some ⟨b,off,none⟩/\b<w.heap.size/\w.cell? ⟨b,off+i,none⟩=some u/\Held .u8 w u (L.getD i [])
theorem HeldB.below{w w':World}{v:Value}{L:List (List Int)}(h:HeldB w v L)(hb:Below w.heap.size w w'):HeldB w' v L:=by
 obtain ⟨ao,cap,rfl,hc⟩:=h;refine ⟨ao,cap,rfl,fun i hi=>?_⟩;obtain ⟨b,off,u,rfl,hlt,h1,h2⟩:=hc i hi;exact ⟨b,off,u,rfl,by have:=hb.size;omega,(hb.cell (p:=⟨b,off+i,none⟩) hlt).trans h1,h2.below hb⟩
theorem HeldB.len{w:World}{v:Value}{L:List (List Int)}(h:HeldB w v L):∃ ao cap,v=.slice ao L.length cap:=by
 obtain ⟨ao,cap,rfl,_⟩:=h;exact ⟨ao,cap,rfl⟩
theorem HeldB.spots{w:World}{ao:Option Addr}{n cap:Nat}{L:List (List Int)}(h:HeldB w (.slice ao n cap) L):∀ i,i<L.length->∃ b off u,ao=some ⟨b,off,none⟩/\b<w.heap.size/\w.cell? ⟨b,off+i,none⟩=some u/\Held .u8 w u (L.getD i []):=by
 obtain ⟨ao',cap',e,hc⟩:=h
 cases e
 exact hc
theorem lj:(Tryz.prog.info? 55).map (fun i=>(i.zero,i.size,i.bytes))=some (some (.slice none 0 0),1,24):=by kernel_rfl
theorem OwnB.nil(w:World)(B:Nat)(v:Value)(h:w.ownsRow B 55 1 v 0 []):OwnB w B v 0 []:=⟨[],h,rfl,fun i hi=>absurd hi (Nat.not_lt_zero _)⟩
theorem OwnB.snoc{w w':World}{B n:Nat}{v' u:Value}{us:List Value}{L:List (List Int)}{xs:List Int}(hl:L.length=n)(hu:∀ i,i<n->∃ u,us[i]? = some u/\w.ownsRow 0 5 1 u (L.getD i []).length ((L.getD i []).map (Value.int .u8)))(Io:us.length=n)
  (hx:w.ownsRow 0 5 1 u xs.length (xs.map (Value.int .u8))) (hown:w'.ownsRow B 55 1 v' (n+1) (us++[u])) (hk:KeepB w w'):OwnB w' B v' (n+1) (L++[xs]):=by
 refine ⟨us++[u],hown,by simp [hl],fun i hi=>?_⟩
 rcases Nat.lt_or_ge i n with h | h
 ·obtain ⟨u',h1,h2⟩:=hu i h;refine ⟨u',by rw [List.getElem?_append_left (by omega)];exact h1,?_⟩;rw [show (L++[xs]).getD i []=L.getD i [] by simp [List.getD,List.getElem?_append,show i<L.length by omega]];exact fa h2 (by decide) hk
 ·obtain rfl:i=n:=by omega
  refine ⟨u,by rw [List.getElem?_append_right (by omega),Io];simp,?_⟩;rw [show (L++[xs]).getD i []=xs by simp [List.getD,List.getElem?_append,hl]];exact fa hx (by decide) hk
def i6(n:Nat)(x:Int):Int:=min (max x 0) n
def ci(n:Nat)(at_:List Int):List Int:=eL (at_.map (i6 n))++[(n:Int)]
def dc(b:List Int)(f p:Int):List Int:=(b.drop f.toNat).take (p.toNat - f.toNat)
def fP(b:List Int)(f:Int):List Int->List (List Int)
 | []=>[]
 | p :: ps=>dc b f p :: fP b p ps
def sq(b at_:List Int):List (List Int):=fP b 0 (ci b.length at_)
def em(f:Int)(P:List Int)(i:Nat):Int:=if i=0 then f else P.getD (i - 1) 0
theorem jQ(b:List Int):∀ (P:List Int) (f:Int),(fP b f P).length=P.length
 | [],_=>rfl
 | p :: P,f=>by simp [fP,jQ b P]
theorem te(b:List Int):∀ (P:List Int) (f:Int) (i:Nat),i<P.length->(fP b f P).getD i []=dc b (em f P i) (P.getD i 0)
 |[],_,i,h=>absurd h (Nat.not_lt_zero _)
 |p :: P,f,0,_=>rfl
 |p :: P,f,i+1,h=>by
  have:=te b P p i (by simpa using h);show (fP b p P).getD i []=dc b ((p :: P).getD i 0) (P.getD i 0);rw [this];unfold em
  by_cases h0:i=0
  ·subst h0;rfl
  ·obtain ⟨j,rfl⟩ : ∃ j,i=j+1:=⟨i - 1,by omega⟩;rw [if_neg (by omega)]
   rfl
theorem i7(n:Nat)(at_:List Int):(ci n at_).length=at_.length+1:=by unfold ci;simp [nN]
theorem yJ(n:Nat)(x:Int):0<=i6 n x/\i6 n x<=n:=by unfold i6;omega
theorem ko(n:Nat)(at_:List Int):∀ x ∈ ci n at_,0<=x/\x<=n:=by
 intro x hx;unfold ci at hx
 rcases List.mem_append.1 hx with h | h
 ·unfold eL at h;rw [List.mem_mergeSort,List.mem_map] at h;obtain ⟨y,_,rfl⟩:=h;exact yJ n y
 ·simp at h
  omega
theorem vz(n:Nat)(at_:List Int):(ci n at_).Pairwise (· <= ·):=by
 unfold ci;rw [List.pairwise_append];refine ⟨?_,by simp,fun a ha b hb=>?_⟩
 ·have:=List.pairwise_mergeSort (le:=fun x y:Int=>decide (x<=y)) (fun a b c h1 h2=>by simp at *;omega) (fun a b=>by simp;omega) (at_.map (i6 n));unfold eL;exact this.imp (fun h=>by simpa using h)
 ·have:=(ko n at_ a (by unfold ci;exact List.mem_append.2 (.inl ha))).2
  simp at hb
  omega
theorem nO(n:Nat)(at_:List Int)(i:Nat)(hi:i<(ci n at_).length):0<=em 0 (ci n at_) i/\em 0 (ci n at_) i<=(ci n at_).getD i 0/\(ci n at_).getD i 0<=n:=by
 have hg:∀ j,j<(ci n at_).length->(ci n at_).getD j 0 ∈ ci n at_:=fun j hj=>by
  simp only [List.getD,List.getElem?_eq_getElem hj,Option.getD_some];exact List.getElem_mem hj
 have h1:=ko n at_ _ (hg i hi);unfold em
 by_cases h0:i=0
 ·rw [if_pos h0];omega
 ·rw [if_neg h0];have h2:=ko n at_ _ (hg (i - 1) (by omega));have h3:=(List.pairwise_iff_getElem.1 (vz n at_)) (i - 1) i (by omega) hi (by omega);simp only [List.getD,List.getElem?_eq_getElem hi,List.getElem?_eq_getElem (show i - 1<(ci n at_).length by omega),Option.getD_some] at h1 h2 ⊢;omega
end
theorem jP(b:List Int):∀ (P:List Int) (f:Int),0<=f->(∀ i,i<P.length->em f P i<=P.getD i 0/\P.getD i 0<=b.length)->P.getLast? = some (b.length:Int)->(fP b f P).flatten=b.drop f.toNat
 |[],f,_,_,h=>by simp at h
 |[p],f,h0,hi,h=>by
  simp at h
  subst h;have:=hi 0 (by simp);have e:em f [(b.length:Int)] 0=f:=rfl;rw [e] at this;have e2:[(b.length:Int)].getD 0 0=b.length:=rfl;rw [e2] at this;show dc b f b.length++[]=_;rw [List.append_nil];unfold dc;rw [List.take_of_length_le (by simp)]
 |p :: q :: ps,f,h0,hi,h=>by
  have h1:=hi 0 (by simp);have e1:em f (p :: q :: ps) 0=f:=rfl;have e2:(p :: q :: ps).getD 0 0=p:=rfl;rw [e1,e2] at h1;have ih:=jP b (q :: ps) p (by omega) (fun i hl=>by
   have:=hi (i+1) (by simp at hl ⊢;omega);have e3:em f (p :: q :: ps) (i+1)=em p (q :: ps) i:=by
    unfold em;rw [if_neg (by omega),Nat.add_sub_cancel]
    by_cases h0:i=0
    ·subst h0;rfl
    ·rw [if_neg h0];obtain ⟨j,rfl⟩ : ∃ j,i=j+1:=⟨i - 1,by omega⟩
     rfl
   rw [e3] at this;exact this) (by simpa using h)
  show dc b f p++(fP b p (q :: ps)).flatten=_;rw [ih];unfold dc;rw [show b.drop p.toNat=(b.drop f.toNat).drop (p.toNat - f.toNat) by rw [List.drop_drop];congr 1;omega,List.take_append_drop]
theorem yG(b at_:List Int):(sq b at_).flatten=b:=by
 unfold sq;rw [jP b _ 0 (Int.le_refl _) (fun i hi=>(nO b.length at_ i hi).2) (by unfold ci;simp)]
 rfl
theorem yH(b at_:List Int):(sq b at_).length=at_.length+1:=by unfold sq;rw [jQ,i7]
def AL(w:World)(L:List (List Int))(e:Ending)(w':World):Prop:=∃ v' n,e=.returned v'/\OwnB w' w.heap.size v' n L/\Below w.heap.size w w'
def qW(n:Nat)(cl:List Int)(k:Nat):List Value:=(cl.take k).map (Value.int .i64)++List.replicate (n - k) (.int .i64 0)
theorem zN(n:Nat)(cl:List Int)(k:Nat)(hn:cl.length=n)(hk:k<n):(qW n cl k).set k (.int .i64 (cl.getD k 0))=qW n cl (k+1):=by
 unfold qW;have hl:((cl.take k).map (Value.int .i64)).length=k:=by simp;omega
 rw [List.set_append_right _ _ (by omega),hl,Nat.sub_self,show n - k=(n - (k+1))+1 by omega,List.replicate_succ,List.set_cons_zero,List.take_succ_eq_append_getElem (by omega),List.map_append,List.append_assoc]
 simp [List.getD,List.getElem?_eq_getElem (show k<cl.length by omega)]
theorem sr{w:World}{B g e n:Nat}{xs:List Value}(h:Has w g xs e)(hl:xs.length=n)(hB:B<=g)(hn:n<=1000000):w.ownsRow B e 1 (.slice (some ⟨g,0,none⟩) n n) n xs:=by
 subst hl;exact ⟨by simp,.inr ⟨g,xs.length,_,rfl,hB,h,Nat.le_refl _,by unfold maxLen;omega,by simp,by simp [List.take_of_length_le]⟩⟩
theorem vA{w:World}{B g e c:Nat}{xs:List Value}(h:Has w g xs e)(hl:xs.length=c)(hB:B<=g)(hn:c<=1000000):w.ownsRow B e 1 (.slice (some ⟨g,0,none⟩) 0 c) 0 []:=by
 subst hl;exact ⟨rfl,.inr ⟨g,xs.length,_,rfl,hB,h,Nat.zero_le _,by unfold maxLen;omega,by simp,by simp⟩⟩
theorem yK(z:Value)(n:Nat):madeCells #[z] n=(List.replicate n z).toArray:=by
 apply Array.ext
 ·simp [madeCells]
 ·intro i h1 h2
  simp [madeCells,Nat.mod_one]
theorem qX{P:Program}(w:World)(t e:TypeId)(z:Value)(bytes:Nat)(ht:P.underlying t=some (.slice e))(CB:(P.info? e).map (fun i=>(i.zero,i.size,i.bytes))=some (some z,1,bytes))(hz:z.cells=#[z])(l c:Nat)(hlc:l<=c)(hc:c * bytes<=16777216)(hc2:c<=16777216) :
  ∃ W,(Instr.makeSlice t (.int .i64 l) (.int .i64 c)).run P w=.ok (.slice (some ⟨w.heap.size,0,none⟩) l c) W/\Has W w.heap.size (List.replicate c z) e/\Below w.heap.size w W/\W.heap.size=w.heap.size+1:=by
 obtain ⟨i0,hi,hz0,hz1,hz2⟩:=info_parts CB;have hby:(i0.bytes:Int) * (c:Int)<=281474976710656:=by
  have h:((i0.bytes * c:Nat):Int)<=281474976710656:=by rw [hz2,Nat.mul_comm];omega
  rwa [Int.natCast_mul] at h
 have hr:=run_makeSlice (P:=P) w t e i0 z ht hi hz0 .i64 .i64 l c (by omega) (by omega) (by rw [hz1];omega) hby (by omega);simp only [Int.toNat_natCast] at hr;refine ⟨w.alloc (.cells (madeCells z.cells (c * i0.size)) e),hr,?_,AU _ _,by simp⟩;have h:=heap_alloc_new w (.cells (madeCells z.cells (c * i0.size)) e);unfold Has;rw [h,hz1,hz,Nat.mul_one,yK]
theorem mt(k:IntKind)(w:World)(a:Addr)(c:Nat):Held k w (.slice (some a) 0 c) []:=⟨some a,c,rfl,(fun h=>by cases h),fun i hi=>absurd hi (by simp)⟩
theorem vB:(Tryz.prog.info? 3).map (fun i=>(i.zero,i.size,i.bytes))=some (some (.int .i64 0),1,8):=by kernel_rfl
theorem zO(v u:Value)(b at_:List Int)(w:World)(hv:Held .u8 w v b)(Kh:sZ v)(hu:Held .i64 w u at_)(hb:b.length<=100000)(ha:at_.length<=100000):Calls Tryz.prog 40 #[v,u] w (AL w (sq b at_)):=by
 obtain ⟨bo,bc,rfl,hvn,hvc⟩:=id hv;obtain ⟨ao,ac,rfl,LL⟩:=id hu.view;have Cd:b.length<=bc:=Kh _ _ _ rfl;obtain ⟨n,hn⟩:=ae (at_.length);obtain ⟨cl,DU⟩:=ae (at_.map (i6 b.length));have hcll:cl.length=n:=by rw [DU,hn];simp
 have hcat:∀ i,i<n->cl.getD i 0=min (max (at_.getD i 0) 0) b.length:=by
  intro i hi;rw [DU]
  simp [List.getD,List.getElem?_map,List.getElem?_eq_getElem (show i<at_.length by omega),i6]
 obtain ⟨P,hP⟩:=ae (ci b.length at_);have hPl:P.length=n+1:=by rw [hP,i7,hn]
 have hPm:P=eL cl++[(b.length:Int)]:=by rw [hP,DU];rfl
 have hPat:∀ i,i<n+1->0<=em 0 P i/\em 0 P i<=P.getD i 0/\P.getD i 0<=b.length:=fun i hi=>by rw [hP];exact nO _ _ i (by rw [i7];omega)
 have hcut:sq b at_=fP b 0 P:=by rw [hP];rfl
 have HV:=ab hv;have HVN:=ab hvn;have HVC:=ab hvc;have HA:=ab LL;have JG:=ab hcll;have Hd:=ab hcat;have Jb:=ab hPl;have HPM:=ab hPm;have KI:=ab hPat;have HCUT:=ab hcut;rw [<-hn] at HA ⊢ ha;clear hv Kh hu hvn hvc LL DU hcll hcat hP hPl hPm hPat hcut hn;obtain ⟨W1,NY,h1,hb1,hs1⟩:=qX (P:=Tryz.prog) w 76 3 (.int .i64 0) 8 Tryz.underlying76 (by kernel_rfl) rfl n n (Nat.le_refl _) (by omega) (by omega);have H1:=ab h1;have IP:=ab hs1;clear h1 hs1
 go_enter Tryz.func40,Tryz.ntmps40
 go_wp2
 go_loopw [17] (fun iv wr=>∃ k:Nat,k<=n/\iv=.int .i64 k/\Has wr w.heap.size (qW n cl k) 3/\Below w.heap.size w wr) (fun iv _=>n - (intOf iv).toNat)
 case atStart=>exact ⟨0,Nat.zero_le _,rfl,by have:=H1.out;simpa [qW] using this,hb1⟩
 case round =>
  obtain ⟨k,hk,rfl,hh,AY⟩:=hrel;clear NY hb1
  by_cases hlt:k<n
  ·obtain ⟨ba,offa,rfl,hba,c0⟩:=HA.out k hlt;have c0:=(AY.cell (p:=⟨ba,offa+k,none⟩) hba).trans c0;have J7:=Hd.out k hlt;have Hu:=zN n cl k JG.out hlt;rw [J7] at Hu;obtain ⟨x,hx⟩:=ae (at_.getD k 0);rw [<-hx] at c0 Hu;have Mh:=hh.cell k (.int .i64 0) (by
    unfold qW;have hlk:((cl.take k).map (Value.int .i64)).length=k:=by
     rw [List.length_map,List.length_take];have:=JG.out;omega
    rw [List.getElem?_append_right (by omega),hlk,Nat.sub_self,List.getElem?_replicate,if_pos (by omega)])
   have hfr:=hh.free k;have E5:=hh.set k (.int .i64 (min (max x 0) b.length));rw [Hu] at E5;have G2:=ab E5;have De:=AY.trans (((But.refl w.heap.size wr.heap.size wr).set k (.int .i64 (min (max x 0) b.length))).below (B':=w.heap.size) AY.size (Nat.le_refl _));have LR:=ab De;clear J7 Hu hx hh E5 De;go_wp2
   go_roundw
   case rel=>exact ⟨k+1,by omega,by go_num,G2.out,LR.out⟩
   case measure=>simp [intOf] <;> omega
  ·obtain rfl:k=n:=by omega
   have hmx:qW k cl k=cl.map (Value.int .i64):=by unfold qW;rw [List.take_of_length_le (by have:=JG.out;omega)];simp
   rw [hmx] at hh;have hown:=sr (B:=w.heap.size) hh (by have:=JG.out;simpa using this) (Nat.le_refl _) (by omega);have HSO:=ab (vy _ cl wr w.heap.size k JG.out.symm hown AY.size (by omega));have GE:=hh.lt;clear hmx hh hown
   go_wp2_with fail
   refine HSO.out.mono ?_;rintro e w2 ⟨rfl,BE,b2,_⟩;have hb2:=AY.trans b2;have hgl2:w.heap.size<w2.heap.size:=(BE.lt _ rfl).2;obtain ⟨W3,Ow,h3,hb3,hs3⟩:=qX (P:=Tryz.prog) w2 77 55 (.slice none 0 0) 24 Tryz.underlying77 (by kernel_rfl) rfl 0 (k+1) (by omega) (by omega) (by omega);rw [show ((0:Nat):Int)=0 from rfl,show ((k+1:Nat):Int)=(k:Int)+1 from rfl] at Ow;have Fi:=aA BE hb3;have MF:=hb2.trans (hb3.mono hb2.size);have FQ:=ab Fi;have H3:=ab h3;clear HSO BE b2 hb3 hb2 Fi h3
   go_wp2_with (at_builtin;refine bd W3 rfl (.tmp 37) (.tmp 40) 76 rfl w.heap.size 3 (.int .i64 0) 1 8 Tryz.underlying76 vB rfl (by decide) (.slice (some ⟨w.heap.size,0,none⟩) k k) k ((eL cl).map (Value.int .i64)) rfl FQ.out [.int .i64 b.length] 1 1 (w2.heap.size+1) hs3 rfl rfl (by intro u hu;simp at hu;rcases hu with rfl <;> rfl) (by omega) (by omega) MF.size ?_)
   intro v4 w4 Ka hb4 hk4;have hb4':=MF.trans hb4;have OS:w4.ownsRow w.heap.size 3 1 v4 (k+1) (P.map (Value.int .i64)):=by rw [HPM.out,List.map_append];exact Ka
   have hg2:Has w4 w2.heap.size (List.replicate (k+1) (.slice none 0 0)) 55:=(hk4 w2.heap.size (by simp [hs3]) (fun e=>by have e2:some w.heap.size=some w2.heap.size:=e;have e3:=Option.some.inj e2;omega)).trans H3.out;have Jq:=bF (n:=k+1) OS;obtain ⟨po,pc,rfl⟩:=id Jq.len;rw [Jb.out] at Jq OS;have Pi:=ab OS;have hOB0:OwnB w4 w.heap.size (.slice (some ⟨w2.heap.size,0,none⟩) 0 (k+1)) 0 []:=OwnB.nil _ _ _ (vA hg2 (by simp) (by omega) (by omega));have HOB0:=ab hOB0;have Ep:=ab hb4';rw [Jb.out];clear Ow hs3 FQ H3 MF Ka hb4 hk4 hb4' OS hg2 Jq hOB0 hgl2 GE AY;go_wp2
   go_loopw [8,9,43] (fun pv fv iv wr=>∃ i:Nat,i<=k+1/\iv=.int .i64 i/\fv=.int .i64 (em 0 P i)/\OwnB wr w.heap.size pv i ((fP b 0 P).take i)/\wr.ownsRow w.heap.size 3 1 (.slice po (k+1) pc) (k+1) (P.map (Value.int .i64))/\Below w.heap.size w wr) (fun _ _ iv _=>k+1 - (intOf iv).toNat)
   case atStart=>exact ⟨0,Nat.zero_le _,rfl,rfl,HOB0.out,Pi.out,Ep.out⟩
   case round =>
    obtain ⟨i,hi,rfl,rfl,M0,Lp,AY⟩:=hrel
    by_cases GV:i<k+1
    ·have hhp:=bF (n:=k+1) Lp;obtain ⟨bp,offp,rfl,hbp,cp⟩:=hhp.spots i (by rw [Jb.out];exact GV);obtain ⟨p0,p1,p2⟩:=KI.out i GV;have JN:i<(fP b 0 P).length:=by rw [jQ,Jb.out];exact GV
     have NG:(fP b 0 P).take (i+1)=(fP b 0 P).take i++[dc b (em 0 P i) (P.getD i 0)]:=by
      rw [List.take_succ_eq_append_getElem JN,<-te b P 0 i (by rw [Jb.out];exact GV)]
      simp [List.getD,List.getElem?_eq_getElem JN]
     have L5:em 0 P (i+1)=P.getD i 0:=by unfold em;rw [if_neg (by omega),Nat.add_sub_cancel]
     obtain ⟨p,hp⟩:=ae (P.getD i 0);obtain ⟨f,hf⟩:=ae (em 0 P i);rw [<-hp,<-hf] at p1 NG;rw [<-hf] at p0 ⊢;rw [<-hp] at p2 cp L5;obtain ⟨fN,rfl⟩:=Int.eq_ofNat_of_zero_le p0;obtain ⟨pN,rfl⟩:=Int.eq_ofNat_of_zero_le (show 0<=p by omega);obtain ⟨us,how,BJ,huo⟩:=M0;have K4:dc b fN pN=(b.drop fN).take (pN - fN):=by unfold dc;simp
     have hone:∀ (ww:World) (bb ee:Nat) (uu:Value) (nn:Nat) (ll:List Value),ww.ownsRow bb ee 1 uu nn ll->uu.oneCell'=true:=by
      intro ww bb ee uu nn ll h
      rcases h.2 with ⟨rfl,_⟩ | ⟨g,cap,cur,rfl,_⟩ <;> rfl
     have La:=ab hone;have J8:=ab NG;have OV:=ab L5;have BH:=ab BJ;have O7:=ab huo;have hVw:=HV.out.below AY;have HVW:=ab hVw;have q1:¬ (bc<pN):=by omega
     have q2:¬ ((bc:Int)<(pN:Int)):=by omega
     have q3:¬ (pN<fN):=by omega
     have q4:¬ ((pN:Int)<(fN:Int)):=by omega
     clear hp hf NG L5 BJ huo hone JN hVw hhp
     by_cases hlt3:fN<pN
     ·obtain ⟨bb,boff,rfl,De,_⟩:=HVC.out 0 (by omega);have HC:=ab (qP HVW.out fN (pN - fN) (by have:=AY.size;omega) (by omega) (bc - fN));have Gt:=ab K4;have q5:¬ (bc=fN):=by omega
      clear K4
      go_wp2_with fail
      refine (gK _ ((b.drop fN).take (pN - fN)) wr HC.out (by first | (simp;done) | (simp;omega))).mono ?_;rintro e w5 ⟨u5,rfl,Dd,b5⟩;obtain ⟨uo,un,uc,El⟩ : ∃ uo un uc,u5=.slice uo un uc:=by
       obtain ⟨a,c,e⟩:=(bF Dd).len;exact ⟨a,_,c,e⟩
      subst El;have CY:=AY.trans (b5.mono AY.size);have Ew:=aA Lp b5;have EP:=aA how b5;have El:∀ j,j<i->∃ u,us[j]? = some u/\(w5.alloc (.cells [Value.slice uo un uc].toArray 55)).ownsRow 0 5 1 u (((fP b 0 P).take i).getD j []).length ((((fP b 0 P).take i).getD j []).map (Value.int .u8)):=fun j hj=>by
       obtain ⟨u,g1,g2⟩:=O7.out j hj;exact ⟨u,g1,(aA g2 b5).alloc _⟩
      have J9:(w5.alloc (.cells [Value.slice uo un uc].toArray 55)).ownsRow 0 5 1 (.slice uo un uc) (dc b fN pN).length ((dc b fN pN).map (Value.int .u8)):=by rw [Gt.out];exact (gj Dd (Nat.zero_le _)).alloc _
      have Io:us.length=i:=by have:=how.1;simpa using this
      have Gf:=ab El;have JF:=ab J9;have M3:=ab Io;have DW:=ab EP;have G0:=ab Ew;have BZ:=ab CY;clear El J9 Io EP Ew CY Dd b5
      go_wp2_with (at_builtin;go_loud (refine bd w5 rfl (.tmp 47) (.tmp 53) 77 rfl w.heap.size 55 (.slice none 0 0) 1 24 Tryz.underlying77 lj rfl (by decide) u8 i us rfl DW.out [.slice uo un uc] 1 1 w5.heap.size rfl rfl rfl (by intro u hu;simp at hu;rw [hu];exact La.out _ _ _ _ _ _ JF.out) (by omega) (by omega) BZ.out.size ?_))
      intro v6 w6 GD BF JT;have hkb:KeepB (w5.alloc (.cells [Value.slice uo un uc].toArray 55)) w6:=iz DW.out JT;have Es:=OwnB.snoc BH.out Gf.out M3.out JF.out GD hkb;rw [<-J8.out] at Es;have GJ:=fa (G0.out.alloc (.cells [Value.slice uo un uc].toArray 55)) (by decide) hkb;have MY:=BZ.out.trans BF;clear GD BF JT hkb;go_wp2
      go_roundw
      case rel=>exact ⟨i+1,by omega,by go_num,(by rw [OV.out];try rfl),Es,GJ,MY⟩
      case measure=>simp [intOf] <;> omega
     ·have LQ:pN=fN:=by omega
      subst LQ;have hpe:dc b pN pN=[]:=by rw [K4,Nat.sub_self,List.take_zero]
      have Gt:=ab hpe;clear K4 hpe
      cases bo with
      |none =>
       obtain ⟨Iu,hbc⟩:=HVN.out rfl;have Ky:pN=0:=by
        have:b.length=0:=by rw [Iu];rfl
        omega
       subst Ky;subst hbc;clear Iu
       go_wp2_with fail
       refine (gK _ [] wr (Held.nil .u8 _) (by first | (simp;done) | (simp;omega))).mono ?_;rintro e w5 ⟨u5,rfl,Dd,b5⟩;obtain ⟨uo,un,uc,El⟩ : ∃ uo un uc,u5=.slice uo un uc:=by
        obtain ⟨a,c,e⟩:=(bF Dd).len;exact ⟨a,_,c,e⟩
       subst El;have CY:=AY.trans (b5.mono AY.size);have Ew:=aA Lp b5;have EP:=aA how b5;have El:∀ j,j<i->∃ u,us[j]? = some u/\(w5.alloc (.cells [Value.slice uo un uc].toArray 55)).ownsRow 0 5 1 u (((fP b 0 P).take i).getD j []).length ((((fP b 0 P).take i).getD j []).map (Value.int .u8)):=fun j hj=>by
        obtain ⟨u,g1,g2⟩:=O7.out j hj;exact ⟨u,g1,(aA g2 b5).alloc _⟩
       have J9:(w5.alloc (.cells [Value.slice uo un uc].toArray 55)).ownsRow 0 5 1 (.slice uo un uc) (dc b (0:Nat) (0:Nat)).length ((dc b (0:Nat) (0:Nat)).map (Value.int .u8)):=by rw [Gt.out];exact (gj Dd (Nat.zero_le _)).alloc _
       have Io:us.length=i:=by have:=how.1;simpa using this
       have Gf:=ab El;have JF:=ab J9;have M3:=ab Io;have DW:=ab EP;have G0:=ab Ew;have BZ:=ab CY;clear El J9 Io EP Ew CY Dd b5
       go_wp2_with (at_builtin;go_loud (refine bd w5 rfl (.tmp 47) (.tmp 53) 77 rfl w.heap.size 55 (.slice none 0 0) 1 24 Tryz.underlying77 lj rfl (by decide) u8 i us rfl DW.out [.slice uo un uc] 1 1 w5.heap.size rfl rfl rfl (by intro u hu;simp at hu;rw [hu];exact La.out _ _ _ _ _ _ JF.out) (by omega) (by omega) BZ.out.size ?_))
       intro v6 w6 GD BF JT;have hkb:KeepB (w5.alloc (.cells [Value.slice uo un uc].toArray 55)) w6:=iz DW.out JT;have Es:=OwnB.snoc BH.out Gf.out M3.out JF.out GD hkb;rw [<-J8.out] at Es;have GJ:=fa (G0.out.alloc (.cells [Value.slice uo un uc].toArray 55)) (by decide) hkb;have MY:=BZ.out.trans BF;clear GD BF JT hkb;go_wp2
       go_roundw
       case rel=>exact ⟨i+1,by omega,by go_num,(by rw [OV.out];try rfl),Es,GJ,MY⟩
       case measure=>simp [intOf] <;> omega
      |some a =>
       by_cases hbp2:bc=pN
       ·subst hbp2
        go_wp2_with fail
        refine (gK _ [] wr (mt _ _ _ _) (by first | (simp;done) | (simp;omega))).mono ?_;rintro e w5 ⟨u5,rfl,Dd,b5⟩;obtain ⟨uo,un,uc,El⟩ : ∃ uo un uc,u5=.slice uo un uc:=by
         obtain ⟨a,c,e⟩:=(bF Dd).len;exact ⟨a,_,c,e⟩
        subst El;have CY:=AY.trans (b5.mono AY.size);have Ew:=aA Lp b5;have EP:=aA how b5;have El:∀ j,j<i->∃ u,us[j]? = some u/\(w5.alloc (.cells [Value.slice uo un uc].toArray 55)).ownsRow 0 5 1 u (((fP b 0 P).take i).getD j []).length ((((fP b 0 P).take i).getD j []).map (Value.int .u8)):=fun j hj=>by
         obtain ⟨u,g1,g2⟩:=O7.out j hj;exact ⟨u,g1,(aA g2 b5).alloc _⟩
        have J9:(w5.alloc (.cells [Value.slice uo un uc].toArray 55)).ownsRow 0 5 1 (.slice uo un uc) (dc b bc bc).length ((dc b bc bc).map (Value.int .u8)):=by rw [Gt.out];exact (gj Dd (Nat.zero_le _)).alloc _
        have Io:us.length=i:=by have:=how.1;simpa using this
        have Gf:=ab El;have JF:=ab J9;have M3:=ab Io;have DW:=ab EP;have G0:=ab Ew;have BZ:=ab CY;clear El J9 Io EP Ew CY Dd b5
        go_wp2_with (at_builtin;go_loud (refine bd w5 rfl (.tmp 47) (.tmp 53) 77 rfl w.heap.size 55 (.slice none 0 0) 1 24 Tryz.underlying77 lj rfl (by decide) u8 i us rfl DW.out [.slice uo un uc] 1 1 w5.heap.size rfl rfl rfl (by intro u hu;simp at hu;rw [hu];exact La.out _ _ _ _ _ _ JF.out) (by omega) (by omega) BZ.out.size ?_))
        intro v6 w6 GD BF JT;have hkb:KeepB (w5.alloc (.cells [Value.slice uo un uc].toArray 55)) w6:=iz DW.out JT;have Es:=OwnB.snoc BH.out Gf.out M3.out JF.out GD hkb;rw [<-J8.out] at Es;have GJ:=fa (G0.out.alloc (.cells [Value.slice uo un uc].toArray 55)) (by decide) hkb;have MY:=BZ.out.trans BF;clear GD BF JT hkb;go_wp2
        go_roundw
        case rel=>exact ⟨i+1,by omega,by go_num,(by rw [OV.out];try rfl),Es,GJ,MY⟩
        case measure=>simp [intOf] <;> omega
       ·have q5:¬ (pN=bc):=by omega
        go_wp2_with fail
        refine (gK _ [] wr (mt _ _ _ _) (by first | (simp;done) | (simp;omega))).mono ?_;rintro e w5 ⟨u5,rfl,Dd,b5⟩;obtain ⟨uo,un,uc,El⟩ : ∃ uo un uc,u5=.slice uo un uc:=by
         obtain ⟨a,c,e⟩:=(bF Dd).len;exact ⟨a,_,c,e⟩
        subst El;have CY:=AY.trans (b5.mono AY.size);have Ew:=aA Lp b5;have EP:=aA how b5;have El:∀ j,j<i->∃ u,us[j]? = some u/\(w5.alloc (.cells [Value.slice uo un uc].toArray 55)).ownsRow 0 5 1 u (((fP b 0 P).take i).getD j []).length ((((fP b 0 P).take i).getD j []).map (Value.int .u8)):=fun j hj=>by
         obtain ⟨u,g1,g2⟩:=O7.out j hj;exact ⟨u,g1,(aA g2 b5).alloc _⟩
        have J9:(w5.alloc (.cells [Value.slice uo un uc].toArray 55)).ownsRow 0 5 1 (.slice uo un uc) (dc b pN pN).length ((dc b pN pN).map (Value.int .u8)):=by rw [Gt.out];exact (gj Dd (Nat.zero_le _)).alloc _
        have Io:us.length=i:=by have:=how.1;simpa using this
        have Gf:=ab El;have JF:=ab J9;have M3:=ab Io;have DW:=ab EP;have G0:=ab Ew;have BZ:=ab CY;clear El J9 Io EP Ew CY Dd b5
        go_wp2_with (at_builtin;go_loud (refine bd w5 rfl (.tmp 47) (.tmp 53) 77 rfl w.heap.size 55 (.slice none 0 0) 1 24 Tryz.underlying77 lj rfl (by decide) u8 i us rfl DW.out [.slice uo un uc] 1 1 w5.heap.size rfl rfl rfl (by intro u hu;simp at hu;rw [hu];exact La.out _ _ _ _ _ _ JF.out) (by omega) (by omega) BZ.out.size ?_))
        intro v6 w6 GD BF JT;have hkb:KeepB (w5.alloc (.cells [Value.slice uo un uc].toArray 55)) w6:=iz DW.out JT;have Es:=OwnB.snoc BH.out Gf.out M3.out JF.out GD hkb;rw [<-J8.out] at Es;have GJ:=fa (G0.out.alloc (.cells [Value.slice uo un uc].toArray 55)) (by decide) hkb;have MY:=BZ.out.trans BF;clear GD BF JT hkb;go_wp2
        go_roundw
        case rel=>exact ⟨i+1,by omega,by go_num,(by rw [OV.out];try rfl),Es,GJ,MY⟩
        case measure=>simp [intOf] <;> omega
    ·obtain rfl:i=k+1:=by omega
     rw [List.take_of_length_le (by rw [jQ,Jb.out];omega)] at M0;go_wp2;go_ret;exact ⟨_,_,rfl,by rw [HCUT.out];exact M0,AY⟩
end Go.Proofs.YtoeggiplcaegoaaGreatDoor
