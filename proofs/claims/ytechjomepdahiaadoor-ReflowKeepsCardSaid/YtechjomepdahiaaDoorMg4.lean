import Derived.Test.YtechjomepdahiaaDoorZ0
import Derived.Test.YtechjomepdahiaaDoorCellP
import Derived.Test.YtechjomepdahiaaDoorMg1
import Derived.Test.YtechjomepdahiaaDoorMg2
import Derived.Test.YtechjomepdahiaaDoorErrS
set_option maxRecDepth 100000
set_option linter.unusedVariables false
set_option linter.unusedSimpArgs false
set_option maxHeartbeats 1600000
namespace Go.Proofs.YtechjomepdahiaaDoor
open Go.RowKit Go.ChangeShapes Go.WideShapes
theorem HeldE.ownedInts{B:Nat}{w:World}{n:Nat}{v:Value}{ty:TypeId}{xs:List Int}(h:w.ownsRow B ty 1 v n (xs.map (Value.int .i32))):HeldE (bj .i32) (fun b=>B<=b) w v xs:=(c7 (Z:=fun b=>B<=b) h).held fun _ hb _=>hb
theorem OwnE.some{α:Type}{E:Elem α}{Z:ai}{w:World}{B:Nat}{ty:TypeId}{v:Value}{L:List α}(h:OwnE E Z w B ty v L)(hl:0<L.length):∃ g cap,v=.slice (some ⟨g,0,none⟩) L.length cap/\B<=g/\g<w.heap.size:=by
 obtain ⟨CS,h1,_⟩:=h
 rcases h1.2 with ⟨rfl,h0⟩ | ⟨g,cap,cur,rfl,hB,hg,_⟩
 ·omega
 ·exact ⟨g,cap,rfl,hB,(Array.getElem?_eq_some_iff.1 hg).1⟩
theorem OwnE.zone{α:Type}{E:Elem α}{Z Y:ai}{w:World}{B:Nat}{ty:TypeId}{v:Value}{L:List α}(h:OwnE E Z w B ty v L)(hy:∀ b,b<w.heap.size->Z b->Y b):OwnE E Y w B ty v L:=h.keep (.refl _ _) hy
def bM(c:Cl):List Cl:=if c.1<2 then [(1,c.2)] else if c.1=2 then [(2,c.2)] else []
def al(L:List Cl):List Cl:=L.flatMap bM
theorem ef(c:Cl):(bM c).length<=1:=by
 unfold bM
 split
 ·simp
 ·split <;> simp
theorem dj(L:List Cl):(al L).length<=L.length:=by
 unfold al
 induction L with
 |nil=>simp
 |cons c L ih =>
  rw [List.flatMap_cons,List.length_append,List.length_cons];have:=ef c;omega
theorem eg(L:List Cl)(k:Nat)(h:k<L.length):al (L.take (k+1))=al (L.take k)++bM (L.getD k zc):=by
 unfold al;rw [List.take_succ_eq_append_getElem h,List.flatMap_append]
 simp [List.getD,List.getElem?_eq_getElem h]
theorem bB:(Tryd.prog.info? 27).map (fun i=>(i.zero,i.size,i.bytes))=some (some (.agg #[.int .i64 0,.slice none 0 0]),cellE.size,32):=by kernel_rfl
def ap(c:Cl):Bool:=if c.2.length=0 then c.1 == 1 else (c.1 == 1 || c.1 == 2) && ak (1,c.2)
def fp(c:Cl):Int:=min (max c.1 1) 2
def dw(M:List Cl):Nat->Int
 | 0=>0
 | k+1=>dw M k+fp (M.getD k zc)
theorem dM(M:List Cl)(k:Nat):dw M (k+1)=dw M k+fp (M.getD k zc):=rfl
def aq(M:List Cl):List Cl:=M.flatMap fun c=>ofC c.1 c.2
theorem ee(M:List Cl)(k:Nat)(h:k<M.length):aq (M.take (k+1))=aq (M.take k)++ofC (M.getD k zc).1 (M.getD k zc).2:=by
 unfold aq;rw [List.take_succ_eq_append_getElem h,List.flatMap_append]
 simp [List.getD,List.getElem?_eq_getElem h]
theorem cP{c:Cl}(h:ap c=true):(c=(1,[])/\ofC c.1 c.2=[zc])\/(c.1=1/\0<c.2.length/\ak (1,c.2)=true/\ofC c.1 c.2=[(1,c.2)])\/(c.1=2/\0<c.2.length/\ak (1,c.2)=true/\ofC c.1 c.2=[(2,c.2),(3,[])]):=by
 obtain ⟨K,t⟩:=c;unfold ap at h;simp only at h ⊢
 by_cases h0:t.length=0
 ·rw [if_pos h0] at h;have:t=[]:=List.eq_nil_of_length_eq_zero h0;subst this;have:K=1:=by simpa using h
  subst this;exact .inl ⟨rfl,by decide⟩
 ·rw [if_neg h0,Bool.and_eq_true] at h;obtain ⟨h1,h2⟩:=h;have hr:=aU h2;have ht:t.length<=16/\aw t=true:=by
   rcases hr with ⟨e,_⟩ | ⟨_,_,h3,h4⟩
   ·simp at e
   ·exact ⟨h3,h4⟩
  have ho:=dK (wide:=K) (t:=t) (by omega) ht.1;rw [dh ht.2] at ho;rw [Bool.or_eq_true,beq_iff_eq,beq_iff_eq] at h1
  rcases h1 with rfl | rfl
  ·exact .inr (.inl ⟨rfl,by omega,h2,by rw [ho];rfl⟩)
  ·exact .inr (.inr ⟨rfl,by omega,h2,by rw [ho];rfl⟩)
theorem eQ{t:List Int}(h0:0<t.length)(h:ak (1,t)=true):ak (2,t)=true:=by
 rcases aU h with ⟨e,_⟩ | ⟨_,_,h3,h4⟩
 ·simp at e
 ·rw [be (.inr rfl),h4];simp only [Bool.and_true,Bool.and_eq_true,decide_eq_true_eq];exact ⟨h0,h3⟩
theorem di(M:List Cl)(h:∀ k,k<M.length->ap (M.getD k zc)=true):∀ k,k<=M.length->aj (aq (M.take k))=true/\al (aq (M.take k))=M.take k/\((aq (M.take k)).length:Int)=dw M k
 |0,_=>⟨rfl,rfl,rfl⟩
 |k+1,hk=>by
  obtain ⟨h1,h2,h3⟩:=di M h k (by omega);have hr:=cP (h k (by omega));have ht:M.take (k+1)=M.take k++[M.getD k zc]:=by
   rw [List.take_succ_eq_append_getElem (by omega)]
   simp [List.getD,List.getElem?_eq_getElem (show k<M.length by omega)]
  rw [ee M k (by omega),dM,<-h3,ht];obtain ⟨c,hc⟩:=ab (M.getD k zc);rw [<-hc] at hr ⊢;have hap:∀ x,al (aq (M.take k)++x)=M.take k++al x:=fun x=>by
   have:al (aq (M.take k)++x)=al (aq (M.take k))++al x:=by unfold al;rw [List.flatMap_append]
   rw [this,h2]
  rw [hap]
  rcases hr with ⟨e,ho⟩ | ⟨e,_,hb,ho⟩ | ⟨e,h0,hb,ho⟩
  ·rw [ho];refine ⟨aX h1 (by decide),by rw [e];rfl,by rw [e];rw [List.length_append];show ((_+1:Nat):Int)=_+1;omega⟩
  ·rw [ho];obtain ⟨K,t⟩:=c;simp only at e hb;subst e;refine ⟨aX h1 (by unfold aj az;rw [hb];rfl),rfl,by rw [List.length_append];show ((_+1:Nat):Int)=_+1;omega⟩
  ·rw [ho];obtain ⟨K,t⟩:=c;simp only at e hb h0;subst e;refine ⟨aX h1 (by unfold aj az;rw [eQ h0 hb];rfl),rfl,by rw [List.length_append];show ((_+2:Nat):Int)=_+2;omega⟩
theorem dN:∀ (n:Nat) (L:List Cl),L.length<=n->aj L=true->(∀ c ∈ al L,ap c=true)/\aq (al L)=L:=by
 intro n
 induction n with
 |zero =>
  intro L hl _;have:L=[]:=List.eq_nil_of_length_eq_zero (by omega);subst this;exact ⟨fun c hc=>absurd hc (List.not_mem_nil),rfl⟩
 |succ n ih =>
  intro L hl hs
  cases L with
  |nil=>exact ⟨fun c hc=>absurd hc (List.not_mem_nil),rfl⟩
  |cons c L =>
   unfold aj az at hs;simp only [Bool.and_eq_true] at hs;obtain ⟨⟨hr1,h3⟩,hs⟩:=hs;simp only [List.length_cons] at hl;have hi:al (c :: L)=bM c++al L:=by unfold al;rw [List.flatMap_cons]
   have hst:∀ (x:Cl) (M:List Cl),aq (x :: M)=ofC x.1 x.2++aq M:=fun x M=>by unfold aq;rw [List.flatMap_cons]
   obtain ⟨K,t⟩:=c
   rcases aU hr1 with ⟨hk,ht⟩ | ⟨hk,h0,gN,hv⟩
   ·simp only at hk ht;subst ht
    rcases hk with rfl | rfl
    ·obtain ⟨i1,i2⟩:=ih L (by omega) hs;rw [hi,show bM (0,[])++al L=(1,[]) :: al L from rfl,hst,i2];refine ⟨fun c hc=>?_,by rw [show ofC 1 []=[zc] from by decide];rfl⟩
     rcases List.mem_cons.1 hc with rfl | hc
     ·rfl
     ·exact i1 c hc
    ·simp at h3
   ·simp only at hk h0 gN hv;have ho:=fun (wide:Int)=>dK (wide:=wide) (t:=t) h0 gN
    rw [dh hv] at ho;have gV:∀ x:Int,x=1\/x=2->ap (x,t)=true:=fun x hx=>by
     unfold ap;rw [if_neg (by simp only;omega)];have:ak (1,t)=true:=by
      rw [be (.inl rfl),hv];simp only [Bool.and_true,Bool.and_eq_true,decide_eq_true_eq];exact ⟨h0,gN⟩
     rw [this]
     rcases hx with rfl | rfl <;> rfl
    rcases hk with rfl | rfl
    ·obtain ⟨i1,i2⟩:=ih L (by omega) hs;rw [hi,show bM (1,t)++al L=(1,t) :: al L from rfl,hst,i2];refine ⟨fun c hc=>?_,by rw [ho];rfl⟩
     rcases List.mem_cons.1 hc with rfl | hc
     ·exact gV 1 (.inl rfl)
     ·exact i1 c hc
    ·have hs:az true L=true:=hs
     cases L with
     |nil=>cases hs
     |cons d L =>
      unfold az at hs;simp only [Bool.and_eq_true] at hs;obtain ⟨⟨hd1,g8⟩,hs⟩:=hs;obtain ⟨K',t'⟩:=d;have hk':K'=3:=by simpa using g8
      subst hk';have ht':t'=[]:=by
       rcases aU hd1 with ⟨_,e⟩ | ⟨e,_⟩
       ·exact e
       ·simp at e
      subst ht';simp only [List.length_cons] at hl;obtain ⟨i1,i2⟩:=ih L (by omega) hs;have hi2:al ((2,t) :: (3,[]) :: L)=(2,t) :: al L:=rfl;rw [hi2,hst,i2];refine ⟨fun c hc=>?_,by rw [ho];rfl⟩
      rcases List.mem_cons.1 hc with rfl | hc
      ·exact gV 2 (.inr rfl)
      ·exact i1 c hc
theorem em(Z Y:ai)(v u:Value)(a b:List Cl)(w:World)(hx:HeldE cellE Z w v a)(hy:HeldE cellE Y w u b):Calls Tryd.prog 15 #[v,u] w (Gives w (.bool (bq a b))):=by
 have iP:=hx.max;obtain ⟨ao,ca,rfl⟩:=hx.len;obtain ⟨bo,cb,rfl⟩:=hy.len;obtain ⟨_,_,hc⟩:=aK hx;obtain ⟨_,_,hd⟩:=aK hy;have HC:=aa hc;have HD:=aa hd;clear hc hd hx hy
 by_cases hl:b.length=a.length
 ·have HL:=aa hl;rw [hl];clear hl
  go_enter Tryd.func15,Tryd.ntmps15
  go_wp2
  go_loopw [5] (fun i wr=>∃ k:Nat,k<=a.length/\i=.int .i64 k/\AlikeC a b k/\Below w.heap.size w wr) (fun i _=>a.length - (intOf i).toNat)
  case atStart=>exact ⟨0,Nat.zero_le _,rfl,(fun j hj=>by omega),Below.refl _ _⟩
  case round =>
   obtain ⟨k,hk,rfl,gh,fB⟩:=hrel;have HA:=aa gh;have fz:=aa fB;clear gh fB
   by_cases hlt:k<a.length
   ·obtain ⟨b1,o1,tv,rfl,hb1,_,c0,c1,hh⟩:=HC.out k hlt;obtain ⟨b2,o2,tu,rfl,hb2,_,d0,d1,hi⟩:=HD.out k (by rw [HL.out];exact hlt);have hlen:=hh.max;have hh:=hh.ints;have hi:=hi.ints;have c0:=(fz.out.cell (p:=⟨b1,o1+k * 2,none⟩) hb1).trans c0;have c1:=(fz.out.cell (p:=⟨b1,o1+k * 2+1,none⟩) hb1).trans c1;have d0:=(fz.out.cell (p:=⟨b2,o2+k * 2,none⟩) hb2).trans d0;have d1:=(fz.out.cell (p:=⟨b2,o2+k * 2+1,none⟩) hb2).trans d1;have f4:=HA.out.next;have hno:=df (a:=a) (b:=b) k;obtain ⟨⟨K,T⟩,fH⟩ : ∃ y,y=a.getD k zc:=⟨_,rfl⟩;obtain ⟨⟨K',T'⟩,fS⟩ : ∃ y,y=b.getD k zc:=⟨_,rfl⟩;rw [<-fH] at c0 hh hlen f4 hno;rw [<-fS] at d0 hi f4 hno;simp only at c0 hh hlen d0 hi;have HH:=aa (hh.below fz.out);have HI:=aa (hi.below fz.out);have gD:=aa f4;have gw:=aa hno;clear fH fS hh hi f4 hno;obtain ⟨wk,ir⟩:=ab (wr);subst ir;have c0:=aD c0;have c1:=aD c1;have d0:=aD d0;have d1:=aD d1
    by_cases hk:K=K'
    ·subst hk;have fW:(K != K)=false:=by simp
     have HQ:=aa (fun u:Growth wk=>dD tv tu T T' (ext wk u) (HH.out.below u.ok) (HI.out.below u.ok) hlen)
     cases hs:bF T T' with
     |true =>
      have HS:=aa hs;rw [hs] at HQ;clear hs;go_wp2;refine ay (by kernel_rfl) (by kernel_rfl) ?_
      repeat (go_big_quiet_step (((go_at_call 48;exact de (HQ.out _)))))
      refine wpQuiet_nil ?_;intro _ hw';obtain ⟨u,hw''⟩:=hw';subst hw'';have HE:=aa (aJ fz.out u);go_wp2
      go_roundw
      case rel=>exact ⟨k+1,by omega,by go_num,gD.out (by have:=of_decide_eq_true HS.out;rw [this]),HE.out⟩
      case measure=>simp [intOf];omega
     |false =>
      have HS:=aa hs;rw [hs] at HQ;clear hs;go_wp2;refine ay (by kernel_rfl) (by kernel_rfl) ?_
      repeat (go_big_quiet_step (((go_at_call 48;exact de (HQ.out _)))))
      refine wpQuiet_nil ?_;intro _ hw';obtain ⟨u,hw''⟩:=hw';subst hw'';have HE:=aa (aJ fz.out u);go_wp2;go_ret;exact ⟨am (by rw [gw.out (fun e=>of_decide_eq_false HS.out (congrArg Prod.snd e))];try rfl),HE.out⟩
    ·have fW:(K != K')=true:=by simpa using hk
     have HK:=aa hk;clear hk;go_wp2;refine ay (by kernel_rfl) (by kernel_rfl) ?_
     repeat (go_big_quiet_step ((fail)))
     refine wpQuiet_nil ?_;intro _ hw';obtain ⟨u,hw''⟩:=hw';subst hw'';have HE:=aa (aJ fz.out u);go_wp2;go_ret;exact ⟨am (by rw [gw.out (fun e=>HK.out (congrArg Prod.fst e))];try rfl),HE.out⟩
   ·obtain rfl:k=a.length:=by omega
    have E:=aa (dI HL.out HA.out);go_wp2;go_ret;exact ⟨am (by rw [E.out];try rfl),fz.out⟩
 ·have E:=aa (dg hl);have hl2:¬ a.length=b.length:=fun h=>hl h.symm
  go_enter Tryd.func15,Tryd.ntmps15
  go_wp2;go_ret;exact ⟨am (by rw [E.out];try rfl),Below.refl _ _⟩
def aH(L:List Cl):Nat->Nat
 | 0=>0
 | k+1=>if (L.getD k zc).1=0 then aH L k else k+1
def dO(L:List Cl):Nat:=aH L L.length
theorem ci(L:List Cl):∀ k,aH L k<=k
 |0=>Nat.le_refl _
 |k+1=>by
  unfold aH;have:=ci L k
  split <;> omega
section
def RowAt(Z:ai)(w:World)(B g gc:Nat)(L:List Cl)(wrap:Bool):Prop :=
 ∃ cap,Has w g [.slice (some ⟨gc,0,none⟩) L.length cap,.bool wrap] 149/\B<=g/\gc≠g/\OwnE cellE (fun b=>Z b/\b≠g) w B 85 (.slice (some ⟨gc,0,none⟩) L.length cap) L/\0<L.length/\L.length<=1024/\aj L=true
section
variable {Z Y S : ai} {w w' : World} {B g gc : Nat} {L : List Cl} {wrap : Bool}
theorem RowAt.lt(h:RowAt Z w B g gc L wrap):g<w.heap.size/\gc<w.heap.size/\B<=gc/\B<=g:=by
 obtain ⟨cap,h1,h2,h3,h4,h5,_⟩:=h;exact ⟨h1.lt,(h4.lt gc rfl).2,(h4.lt gc rfl).1,h2⟩
theorem RowAt.keep(h:RowAt Z w B g gc L wrap)(hk:KeepZ (fun b=>Z b\/b=g\/b=gc) w w')(hy:∀ b,b<w.heap.size->Z b->Y b):RowAt Y w' B g gc L wrap:=by
 obtain ⟨cap,h1,h2,h3,h4,h5⟩:=h;refine ⟨cap,hk.has h1 (.inr (.inl rfl)),h2,h3,h4.keep (hk.mono fun b _ hz=>?_) (fun b hb hz=>⟨hy b hb hz.1,hz.2⟩),h5⟩
 rcases hz with hz | hz
 ·exact .inl hz.1
 ·exact .inr (.inr (by simpa [Value.ownBlock] using hz.symm))
theorem RowAt.below(h:RowAt Z w B g gc L wrap)(hb:Below w.heap.size w w'):RowAt Z w' B g gc L wrap:=h.keep (.all hb _) fun _ _ h=>h
theorem RowAt.upd(h:RowAt Z w B g gc L wrap)(hu:Upd S w w')(hz:∀ b,Z b->¬ S b)(hg:¬ S g)(hgc:¬ S gc):RowAt Z w' B g gc L wrap :=
 h.keep (hu.keep.mono fun b _ hb=>by rcases hb with hb | rfl | rfl;exact hz b hb;exact hg;exact hgc) fun _ _ h=>h
theorem RowAt.base(h:RowAt Z w B g gc L wrap){B':Nat}(hb:B'<=B):RowAt Z w B' g gc L wrap:=by
 obtain ⟨cap,h1,h2,h3,h4,h5⟩:=h;exact ⟨cap,h1,by omega,h3,h4.base hb,h5⟩
theorem RowAt.len(h:RowAt Z w B g gc L wrap):0<L.length/\L.length<=1024/\aj L=true:=by
 obtain ⟨cap,_,_,_,_,h5⟩:=h;exact h5
theorem RowAt.held(h:RowAt Z w B g gc L wrap):∃ cap,Has w g [.slice (some ⟨gc,0,none⟩) L.length cap,.bool wrap] 149/\HeldE cellE (fun b=>True) w (.slice (some ⟨gc,0,none⟩) L.length cap) L:=by
 obtain ⟨cap,h1,h2,h3,h4,h5⟩:=h;exact ⟨cap,h1,(h4.zone (Y:=fun _=>True) (fun _ _ _=>trivial)).held fun _ _ _=>trivial⟩
end
theorem dG{L:List Cl}(h:aj L=true):∀ k,k<L.length->ak (L.getD k zc)=true:=by
 intro k hk;rw [c5] at h;have:=dq hk h;unfold dp at this;simp only [Bool.and_eq_true] at this;exact this.1.1
theorem dH{c:Cl}(h:ak c=true):c.2.length<=16:=by
 obtain ⟨k,t⟩:=c;unfold ak at h
 split at h
 ·simp at h;simp [h]
 ·simp only [Bool.and_eq_true,decide_eq_true_eq] at h;exact h.1.2
end
section
section
variable (sa : Nat → Addr) (Y : ai) (L : List Cl) (v : Value) (w : World)
end
end
end Go.Proofs.YtechjomepdahiaaDoor
