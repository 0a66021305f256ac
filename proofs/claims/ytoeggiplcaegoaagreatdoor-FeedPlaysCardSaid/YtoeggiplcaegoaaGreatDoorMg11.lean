import Derived.Test.YtoeggiplcaegoaaGreatDoorZ0
import Derived.Test.YtoeggiplcaegoaaGreatDoorFedX
import Derived.Test.YtoeggiplcaegoaaGreatDoorMg9
set_option maxRecDepth 100000
set_option linter.unusedVariables false
set_option linter.unusedSimpArgs false
set_option maxHeartbeats 400000
namespace Go.Proofs.YtoeggiplcaegoaaGreatDoor
open Go.RowKit Go.ChangeShapes Go.WideShapes
def wfV(l b h:Int):Prop:=h=0\/(ax l=2/\h=1/\0<=b/\b<32)\/(ax l=3/\h=1/\b=l - 224/\224<=l/\l<=239)\/(ax l=3/\h=2/\0<=b/\b<1024/\(b<864\/896<=b))\/(ax l=4/\h=1/\b=l - 240/\240<=l/\l<=244)\/(ax l=4/\h=2/\16<=b/\b<272)\/(ax l=4/\h=3/\1024<=b/\b<17408)
theorem m7(x:Int)(x0:0<=x)(x1:x<=255):wfV (bB x) (aX x) (bC x)/\∀ y ∈ be x,bg y=true:=by
 unfold wfV bB aX bC be bY
 rcases bp x with ⟨h2,hs⟩ | ⟨h2,h3,hs⟩ | ⟨h2,h3,hs⟩ | ⟨h2,h3,hs⟩ | ⟨h2,h3,hs⟩ | ⟨h2,hs⟩
 all_goals (rw [hs];simp [hs,validB_true];try omega)
theorem p7{l x:Int}(h:bO l 1 x=true):lo2 l<=x/\x<=hi2 l:=by
 unfold bO at h
 simpa using h
theorem tZ{l h x:Int}(h1:1<h)(h:bO l h x=true):128<=x/\x<=191:=by
 unfold bO at h;rw [if_pos h1] at h;exact tailB_true.1 h
theorem wW(l b h x:Int)(hw:wfV l b h)(x0:0<=x)(x1:x<=255):wfV (dV l h x) (cV l b h x) (dW l h x)/\∀ y ∈ dM l b h x,bg y=true:=by
 unfold dV cV dW dM
 by_cases hz:h=0
 ·rw [if_pos hz,if_pos hz,if_pos hz,if_pos hz];exact m7 x x0 x1
 rw [if_neg hz,if_neg hz,if_neg hz,if_neg hz]
 by_cases hx:bO l h x=true
 ·rw [if_pos hx,if_pos hx,if_pos hx,if_pos hx]
  rcases hw with hw | ⟨e,rfl,b0,b1⟩ | ⟨e,rfl,b0,l0,l1⟩ | ⟨e,rfl,b0,b1,b2⟩ | ⟨e,rfl,b0,l0,l1⟩ | ⟨e,rfl,b0,b1⟩ | ⟨e,rfl,b0,b1⟩
  ·exact absurd hw hz
  ·rw [e,if_neg (by decide),if_neg (by decide),if_neg (by decide),if_neg (by decide)];refine ⟨.inl rfl,fun y hy=>?_⟩;obtain rfl:y=b * 64+x % 64:=by simpa using hy
   exact validB_true.2 (by omega)
  ·rw [e,if_pos (by decide),if_pos (by decide),if_pos (by decide),if_pos (by decide)];have hn:=p7 hx;unfold lo2 hi2 at hn;rw [e] at hn;refine ⟨.inr (.inr (.inr (.inl ⟨e,rfl,?_⟩))),fun y hy=>by cases hy⟩;obtain ⟨n1,n2⟩:=hn;rw [if_neg (by decide)] at n1 n2
   split at n1 <;> split at n2 <;> (try split at n2) <;> (try split at n1) <;> omega
  ·rw [e,if_neg (by decide),if_neg (by decide),if_neg (by decide),if_neg (by decide)];refine ⟨.inl rfl,fun y hy=>?_⟩;obtain rfl:y=b * 64+x % 64:=by simpa using hy
   exact validB_true.2 (by omega)
  ·rw [e,if_pos (by decide),if_pos (by decide),if_pos (by decide),if_pos (by decide)];have hn:=p7 hx;unfold lo2 hi2 at hn;rw [e] at hn;refine ⟨.inr (.inr (.inr (.inr (.inr (.inl ⟨e,rfl,?_⟩))))),fun y hy=>by cases hy⟩;obtain ⟨n1,n2⟩:=hn;rw [if_neg (by decide)] at n1 n2
   split at n1 <;> split at n2 <;> (try split at n2) <;> (try split at n1) <;> omega
  ·rw [e,if_pos (by decide),if_pos (by decide),if_pos (by decide),if_pos (by decide)];have hn:=tZ (by decide) hx;refine ⟨.inr (.inr (.inr (.inr (.inr (.inr ⟨e,rfl,?_⟩))))),fun y hy=>by cases hy⟩;omega
  ·rw [e,if_neg (by decide),if_neg (by decide),if_neg (by decide),if_neg (by decide)];refine ⟨.inl rfl,fun y hy=>?_⟩;obtain rfl:y=b * 64+x % 64:=by simpa using hy
   exact validB_true.2 (by omega)
 ·rw [if_neg hx,if_neg hx,if_neg hx,if_neg hx];obtain ⟨h1,h2⟩:=m7 x x0 x1;refine ⟨h1,fun y hy=>?_⟩
  rcases List.mem_cons.1 hy with e | e
  ·rw [e];exact validB_true.2 (by omega)
  ·exact h2 y e
theorem iU:∀ (L:List Int) (s:St),wfV s.1 s.2.1 s.2.2->(∀ x ∈ L,0<=x/\x<=255)->(∀ y ∈ aA s L,bg y=true)/\wfV (aF s L).1 (aF s L).2.1 (aF s L).2.2
 |[],s,h,_=>⟨(fun y hy=>by cases hy),h⟩
 |x :: L,s,h,hL=>by
  obtain ⟨h1,h2⟩:=wW s.1 s.2.1 s.2.2 x h (hL x (by simp)).1 (hL x (by simp)).2;obtain ⟨k1,k2⟩:=iU L (ch s x) h1 (fun y hy=>hL y (by simp [hy]));refine ⟨fun y hy=>?_,k2⟩
  rcases List.mem_append.1 hy with e | e
  ·exact h2 y e
  ·exact k1 y e
theorem lS{L:List Int}(h:inBytes L):∀ x ∈ L,0<=x/\x<=255:=fun x hx=>by
 have:=h.mem L.length x;rw [List.take_length] at this;exact this hx
theorem wX:wfV st0.1 st0.2.1 st0.2.2:=.inl rfl
theorem wY{y:Int}(h:bg y=true):aS y=y:=by unfold aS;rw [if_pos h]
theorem oz{xs:List Int}(h:∀ y ∈ xs,bg y=true):bI xs:=fun i hi=>by
 have:=validB_true.1 (h (xs.getD i 0) (by rw [List.getD,List.getElem?_eq_getElem hi];exact List.getElem_mem hi));omega
theorem wZ(y:Int):bg (aS y)=true:=by
 unfold aS
 split
 ·assumption
 ·exact validB_true.2 (by omega)
def AllV(xs:List Int):Prop:=∀ y ∈ xs,bg y=true
theorem AllV.ok{xs:List Int}(h:AllV xs):okT xs:=fun y hy=>wY (h y hy)
theorem AllV.bounds{xs:List Int}(h:AllV xs):bI xs:=oz h
theorem AllV.app{xs ys:List Int}(h:AllV xs)(k:AllV ys):AllV (xs++ys):=fun y hy=>(List.mem_append.1 hy).elim (h y) (k y)
theorem AllV.nil:AllV []:=fun _ h=>by cases h
theorem AllV.told{bs c:List Int}(hb:inBytes bs)(hc:inBytes c):AllV (aA (aF st0 bs) c):=(iU c _ (iU bs st0 wX (lS hb)).2 (lS hc)).1
theorem AllV.one(x:Int):AllV [aS x]:=fun y hy=>by
 obtain rfl:y=aS x:=by simpa using hy
 exact wZ x
theorem xb:inBytes []:=fun i hi=>absurd hi (by simp)
theorem y9{a b:List Int}(ha:inBytes a)(hb:inBytes b):inBytes (a++b):=fun i hi=>by
 have hm:(a++b).getD i 0 ∈ a++b:=by rw [List.getD,List.getElem?_eq_getElem hi];exact List.getElem_mem hi
 rcases List.mem_append.1 hm with e | e
 ·exact lS ha _ e
 ·exact lS hb _ e
theorem xd{bs:List Int}(hb:inBytes bs):wfS (aF st0 bs):=jx _ _ pZ (lS hb)
section
variable {Xo : an}
def Aside(t:TypeId):Prop:=t≠42/\t≠119/\t≠113/\t≠187/\t≠147/\t≠143/\t≠130
section
variable {w w1 w2 : World} {B gp gg gr wd gf gb : Nat} {R R1 : List Rw} {op op1 : Option Nat} {p p' pF : Pn} {xs : List Int} {s : St} {C : List Value} {t : TypeId}
theorem PenY.aside{Yo:an}{Ls:List Ln}{r c:Int}{pd au:Bool}(h:PenY Yo w B gp gg gr wd R Ls r c pd au)(hg:Has w gb C t)(ht:Aside t)(hx:jo w gb)(hu:Upd (fun b=>b=gb) w w1):PenY Yo w1 B gp gg gr wd R Ls r c pd au :=
 ⟨hu.keep.has h.1 (fun e=>by subst e;exact aH hg h.1 ht.1),h.2.1,h.2.2.1.pen hx (h.2.2.1.other hg ht.2.1 ht.2.2.1 ht.2.2.2.1 ht.2.2.2.2.1) hu,h.2.2.2⟩
theorem FAt.off(h:FAt Xo w B gp gg gr wd gf R p xs s op)(hg:Has w gb C t)(ht:Aside t):¬ FW w gp gr gf R op gb:=by
 obtain ⟨t0,t1,t2,t3,t4,t5,t6⟩:=ht;rintro ((e | e) | e)
 ·obtain ⟨_,_,h2⟩:=h.2.pen;exact ow h2.any hg t0 t1 t2 t3 t4 e
 ·obtain ⟨Yo,h1,h2,h3⟩:=h.2
  cases ho:bT xs with
  |false=>rw [(h2 ho).1] at e;cases e
  |true =>
   obtain ⟨g,e1,_,e3⟩:=h3 ho;rw [e1] at e
   cases e
   exact aH hg e3.2.1 t6
 ·subst e;exact aH hg h.1 t5
theorem FAt.beside(h:FAt Xo w B gp gg gr wd gf R p xs s op)(hg:Has w gb C t)(ht:Aside t)(hx:jo w gb)(hu:Upd (fun b=>b=gb) w w1):FAt Xo w1 B gp gg gr wd gf R p xs s op:=by
 have hne:gf≠gb:=fun e=>h.off hg ht (.inr e.symm)
 refine ⟨hu.keep.has h.1 (fun e=>hne e),?_⟩;have hof:=h.off hg ht;obtain ⟨Yo,h1,h2,h3⟩:=h.2;refine ⟨Yo,h1,fun e=>⟨(h2 e).1,(h2 e).2.aside hg ht hx hu⟩,fun e=>?_⟩;obtain ⟨g,e1,e2,e3⟩:=h3 e;exact ⟨g,e1,e2,e3.1.aside hg ht hx hu,hu.keep.has e3.2.1 (fun e=>hof (.inl (.inr (by rw [e1,e])))),e3.2.2⟩
def QBox(w:World)(gp gr gf gb:Nat)(R:List Rw)(op:Option Nat)(p:Pn)(G bs:List Int)(v gv bv:Value):Prop :=
 Has w gb [v,.int .i64 p.r,.int .i64 p.c,.bool p.pd,.bool p.au,gv,bv,.int .i64 ((aA st0 bs).length:Nat)] 66/\HeldE lineE (fun b=>¬ FW w gp gr gf R op b/\b≠gb) w v p.L/\HeldE (aE .i32) (fun b=>¬ FW w gp gr gf R op b/\b≠gb) w gv G/\HeldE (aE .u8) (fun b=>¬ FW w gp gr gf R op b/\b≠gb) w bv bs
theorem kT:Aside 66:=by unfold Aside;decide
variable {G bs G' bs' : List Int} {v gv bv v' gv' bv' : Value}
theorem QBox.notx(h:QBox w gp gr gf gb R op p G bs v gv bv):jo w gb:=fun q x e=>by
 obtain ⟨h1,h2,h3,h4⟩:=h;obtain ⟨o1,k1,rfl⟩:=h2.len;obtain ⟨o2,k2,rfl⟩:=h3.len;obtain ⟨o3,k3,rfl⟩:=h4.len;rw [cell_of_row w gb q _ _ (0,0) h1] at e
 match q with
 | 0=>simp at e
 | 1=>simp at e
 | 2=>simp at e
 | 3=>simp at e
 | 4=>simp at e
 | 5=>simp at e
 | 6=>simp at e
 | 7=>simp at e
 | q+8=>simp at e
theorem fwz{α:Type}{E:Elem α}{x:Value}{L:List α}(hx:HeldE E (fun b=>¬ FW w gp gr gf R op b/\b≠gb) w x L)(hu:Upd (FW w gp gr gf R op) w w1)(hf:RowsFrom w R R1)(ho:∀ g,op1=some g->op=some g\/w.heap.size<=g):HeldE E (fun b=>¬ FW w1 gp gr gf R1 op1 b/\b≠gb) w1 x L :=
 (hx.upd hu fun b hz e=>hz.1 e).zone fun b _ hz=>⟨fun e=>hz.1 (FW.from hf ho hu.size b e),hz.2⟩
theorem QBox.go(h:QBox w gp gr gf gb R op p G bs v gv bv)(hF:FAt Xo w B gp gg gr wd gf R p' xs s op)(hu:Upd (FW w gp gr gf R op) w w1)(hf:RowsFrom w R R1)(ho:∀ g,op1=some g->op=some g\/w.heap.size<=g):QBox w1 gp gr gf gb R1 op1 p G bs v gv bv :=
 ⟨hu.keep.has h.1 (hF.off h.1 kT),fwz h.2.1 hu hf ho,fwz h.2.2.1 hu hf ho,fwz h.2.2.2 hu hf ho⟩
theorem QBox.below(h:QBox w gp gr gf gb R op p G bs v gv bv)(hF:FAt Xo w B gp gg gr wd gf R p' xs s op)(hb:Below w.heap.size w w1):QBox w1 gp gr gf gb R op p G bs v gv bv :=
 h.go hF ((Upd.ofBelow hb).mono fun b _ e=>.inl (.inl (.inr (.inr (.inr e))))) (RowsFrom.self _ _) fun _ e=>.inl e
theorem bD{α:Type}{E:Elem α}{x:Value}{L:List α}(hx:HeldE E (fun b=>¬ FW w gp gr gf R op b/\b≠gb) w x L):HeldE E (fun b=>(¬ FW w gp gr gf R op b/\b≠gb)/\b<w.heap.size) w x L:=hx.zone fun _ hb hz=>⟨hz,hb⟩
theorem ur{α:Type}{E:Elem α}{x:Value}{L:List α}(hF:FAt Xo w B gp gg gr wd gf R p' xs s op)(hg:gb<w.heap.size)(hb:Below w.heap.size w w1)(hx:HeldE E (ZB (fun b=>(¬ FW w gp gr gf R op b/\b≠gb)/\b<w.heap.size) w w1) w1 x L):HeldE E (fun b=>¬ FW w1 gp gr gf R op b/\b≠gb) w1 x L :=
 hx.zone fun b hl hz=>by
  rcases hz with hz | hz
  ·exact ⟨fun e=>hz.1.1 (FW.from (RowsFrom.self _ _) (fun _ e=>.inl e) hb.size b e),hz.1.2⟩
  ·exact ⟨iX hF hz.1 hl,by omega⟩
theorem QBox.put(h:QBox w gp gr gf gb R op p G bs v gv bv)(hF:FAt Xo w B gp gg gr wd gf R pF xs s op)(hb:Below w.heap.size w w1)
  (hv:HeldE lineE (ZB (fun b=>(¬ FW w gp gr gf R op b/\b≠gb)/\b<w.heap.size) w w1) w1 v' p'.L) (hg:HeldE (aE .i32) (ZB (fun b=>(¬ FW w gp gr gf R op b/\b≠gb)/\b<w.heap.size) w w1) w1 gv' G') (BZ:HeldE (aE .u8) (ZB (fun b=>(¬ FW w gp gr gf R op b/\b≠gb)/\b<w.heap.size) w w1) w1 bv' bs') :
  QBox (qc w1 gb v' (.int .i64 p'.r) (.int .i64 p'.c) (.bool p'.pd) (.bool p'.au) gv' bv' (.int .i64 ((aA st0 bs').length:Nat))) gp gr gf gb R op p' G' bs' v' gv' bv'/\FAt Xo (qc w1 gb v' (.int .i64 p'.r) (.int .i64 p'.c) (.bool p'.pd) (.bool p'.au) gv' bv' (.int .i64 ((aA st0 bs').length:Nat))) B gp gg gr wd gf R pF xs s op:=by
 have Dx:=h.below hF hb;have hF1:=hF.below hb;have hu:=db w1 gb v' (.int .i64 p'.r) (.int .i64 p'.c) (.bool p'.pd) (.bool p'.au) gv' bv' (.int .i64 ((aA st0 bs').length:Nat));have hn:∀ {x:Value} {α:Type} {E:Elem α} {L:List α},HeldE E (ZB (fun b=>(¬ FW w gp gr gf R op b/\b≠gb)/\b<w.heap.size) w w1) w1 x L->HeldE E (fun b=>¬ FW (qc w1 gb v' (.int .i64 p'.r) (.int .i64 p'.c) (.bool p'.pd) (.bool p'.au) gv' bv' (.int .i64 ((aA st0 bs').length:Nat))) gp gr gf R op b/\b≠gb) (qc w1 gb v' (.int .i64 p'.r) (.int .i64 p'.c) (.bool p'.pd) (.bool p'.au) gv' bv' (.int .i64 ((aA st0 bs').length:Nat))) x L:=fun hx =>
  ((ur hF h.1.lt hb hx).upd hu fun b hz e=>hz.2 e).zone fun b hl hz=>⟨fun e=>hz.1 (FW.from (RowsFrom.self _ _) (fun _ e=>.inl e) hu.size b e),hz.2⟩
 exact ⟨⟨eD Dx.1 _ _ _ _ _ _ _ _,hn hv,hn hg,hn BZ⟩,hF1.beside Dx.1 kT Dx.notx hu⟩
end
end
section
variable {Xo : an}
section
variable {w w1 w2 : World} {B gp gg gr wd gf gb ht : Nat} {R R1 : List Rw} {op op1 : Option Nat} {p p' pF : Pn} {xs : List Int} {s : St} {G bs G' bs' : List Int} {v gv bv v' gv' bv' : Value}
abbrev ZQ(w:World)(gp gr gf gb:Nat)(R:List Rw)(op:Option Nat):an:=fun b=>(¬ FW w gp gr gf R op b/\b≠gb)/\b<w.heap.size
def RQ(w:World)(gp gr gf gb:Nat)(R:List Rw)(op:Option Nat)(p:Pn)(G bs:List Int)(x:Value)(w2:World):Prop :=
 ∃ v gv bv,x=.agg #[v,.int .i64 p.r,.int .i64 p.c,.bool p.pd,.bool p.au,gv,bv,.int .i64 ((aA st0 bs).length:Nat)]/\HeldE lineE (ZB (ZQ w gp gr gf gb R op) w w2) w2 v p.L/\HeldE (aE .i32) (ZB (ZQ w gp gr gf gb R op) w w2) w2 gv G/\HeldE (aE .u8) (ZB (ZQ w gp gr gf gb R op) w w2) w2 bv bs
theorem nk{Z:an}(h1:w.heap.size<=w1.heap.size)(h2:w1.heap.size<=w2.heap.size){b:Nat}(h:ZB Z w w1 b):ZB Z w w2 b:=by
 rcases h with h | h
 ·exact .inl h
 ·exact .inr ⟨h.1,by omega⟩
theorem nl{Z:an}(h1:w.heap.size<=w1.heap.size){b:Nat}(h:ZB Z w1 w2 b):ZB Z w w2 b:=by
 rcases h with h | h
 ·exact .inl h
 ·exact .inr ⟨by omega,h.2⟩
theorem RQ.below{x:Value}(h:RQ w gp gr gf gb R op p G bs x w1)(h1:w.heap.size<=w1.heap.size)(hb:Below w1.heap.size w1 w2):RQ w gp gr gf gb R op p G bs x w2:=by
 obtain ⟨v,gv,bv,e,k1,k2,k3⟩:=h;exact ⟨v,gv,bv,e,(k1.below hb).zone fun b _ hz=>nk h1 hb.size hz,(k2.below hb).zone fun b _ hz=>nk h1 hb.size hz,(k3.below hb).zone fun b _ hz=>nk h1 hb.size hz⟩
theorem RQ.of{n:Int}{e:Ending}(hb:Below w.heap.size w w1)(hn:n=((aA st0 bs).length:Nat))(h:RFd (ZQ w gp gr gf gb R op) w1 p G bs n e w2):∃ x,e=.returned x/\RQ w gp gr gf gb R op p G bs x w2/\Below w1.heap.size w1 w2:=by
 obtain ⟨v,gv,bv,rfl,k1,k2,k3,k4⟩:=h;subst hn;exact ⟨_,rfl,⟨v,gv,bv,rfl,k1.zone fun b _ hz=>nl hb.size hz,k2.zone fun b _ hz=>nl hb.size hz,k3.zone fun b _ hz=>nl hb.size hz⟩,k4⟩
theorem QBox.store{x:Value}(h:QBox w gp gr gf gb R op p G bs v gv bv)(hF:FAt Xo w B gp gg gr wd gf R pF xs s op)(hb:Below w.heap.size w w1)(hr:RQ w gp gr gf gb R op p' G' bs' x w1):∃ v' gv' bv',x=.agg #[v',.int .i64 p'.r,.int .i64 p'.c,.bool p'.pd,.bool p'.au,gv',bv',.int .i64 ((aA st0 bs').length:Nat)] /\
  QBox (qc w1 gb v' (.int .i64 p'.r) (.int .i64 p'.c) (.bool p'.pd) (.bool p'.au) gv' bv' (.int .i64 ((aA st0 bs').length:Nat))) gp gr gf gb R op p' G' bs' v' gv' bv'/\FAt Xo (qc w1 gb v' (.int .i64 p'.r) (.int .i64 p'.c) (.bool p'.pd) (.bool p'.au) gv' bv' (.int .i64 ((aA st0 bs').length:Nat))) B gp gg gr wd gf R pF xs s op:=by
 obtain ⟨v',gv',bv',e,k1,k2,k3⟩:=hr;exact ⟨v',gv',bv',e,h.put hF hb k1 k2 k3⟩
theorem mj(hb:w.heap.size<=w1.heap.size):∀ b,ZQ w gp gr gf gb R op b->b<w1.heap.size:=fun b h=>Nat.lt_of_lt_of_le h.2 hb
variable (h : QBox w gp gr gf gb R op p G bs v gv bv) (hb : Below w.heap.size w w1)
include h hb
theorem QBox.bytes{cv:Value}{c:List Int}(hc:HeldE (aE .u8) (fun b=>¬ FW w gp gr gf R op b/\b≠gb) w cv c)(hG:G.length<=600000)(FU:bs.length+c.length<=100000)(hbr:inBytes bs)(KQ:inBytes c) :
  Calls Tryz.prog 33 #[.agg #[v,.int .i64 p.r,.int .i64 p.c,.bool p.pd,.bool p.au,gv,bv,.int .i64 ((aA st0 bs).length:Nat)],cv] w1 (fun e w2=>∃ x,e=.returned x/\RQ w gp gr gf gb R op p (G++aA (aF st0 bs) c) (bs++c) x w2/\Below w1.heap.size w1 w2) :=
 (p9 (ZQ w gp gr gf gb R op) v gv bv p G bs _ cv c w1 ((bD h.2.1).below hb) ((bD h.2.2.1).below hb) ((bD h.2.2.2).below hb) (mj hb.size) ((bD hc).below hb) hG FU hbr KQ rfl).mono fun _ _ k=>RQ.of hb rfl k
theorem QBox.rune(x:Int)(hn:G.length<=1000000) :
  Calls Tryz.prog 34 #[.agg #[v,.int .i64 p.r,.int .i64 p.c,.bool p.pd,.bool p.au,gv,bv,.int .i64 ((aA st0 bs).length:Nat)],.int .i32 x] w1 (fun e w2=>∃ y,e=.returned y/\RQ w gp gr gf gb R op p (G++[aS x]) bs y w2/\Below w1.heap.size w1 w2) :=
 (lU (ZQ w gp gr gf gb R op) v gv bv p G bs _ x w1 ((bD h.2.1).below hb) ((bD h.2.2.1).below hb) ((bD h.2.2.2).below hb) (mj hb.size) hn).mono fun _ _ k=>RQ.of hb rfl k
theorem QBox.close(hs:eJ wd ht)(hp:PnOk wd ht p)(hn:G.length<=1000000)(hG:AllV G) :
  Calls Tryz.prog 36 #[.agg #[v,.int .i64 p.r,.int .i64 p.c,.bool p.pd,.bool p.au,gv,bv,.int .i64 ((aA st0 bs).length:Nat)]] w1 (fun e w2=>∃ y,e=.returned y/\RQ w gp gr gf gb R op (bH wd p (bj G)) [] bs y w2/\Below w1.heap.size w1 w2) :=
 (kB (ZQ w gp gr gf gb R op) v gv bv p G bs _ w1 wd ht ((bD h.2.1).below hb) ((bD h.2.2.1).below hb) ((bD h.2.2.2).below hb) (mj hb.size) hs hp hn hG.bounds hG.ok).mono fun _ _ k=>RQ.of hb rfl k
theorem QBox.flush(hs:eJ wd ht)(hp:PnOk wd ht p)(hn:G.length<=999999)(hG:AllV G)(FU:bs.length<=1000000)(hbr:inBytes bs) :
  Calls Tryz.prog 35 #[.agg #[v,.int .i64 p.r,.int .i64 p.c,.bool p.pd,.bool p.au,gv,bv,.int .i64 ((aA st0 bs).length:Nat)]] w1 (fun e w2=>∃ y,e=.returned y/\RQ w gp gr gf gb R op (bH wd p (bj (G++flT (aF st0 bs)))) [] [] y w2/\Below w1.heap.size w1 w2) :=
 (qb (ZQ w gp gr gf gb R op) v gv bv p G bs _ w1 wd ht ((bD h.2.1).below hb) ((bD h.2.2.1).below hb) ((bD h.2.2.2).below hb) (mj hb.size) hs hp hn hG.bounds hG.ok FU hbr).mono fun _ _ k=>RQ.of hb rfl k
theorem QBox.pen(hs:eJ wd ht)(hp:PnOk wd ht p)(hn:G.length<=1000000)(hG:AllV G) :
  Calls Tryz.prog 37 #[.agg #[v,.int .i64 p.r,.int .i64 p.c,.bool p.pd,.bool p.au,gv,bv,.int .i64 ((aA st0 bs).length:Nat)]] w1 (fun e w'=>∃ x,e=.returned x/\(∃ v',x=.agg #[v',.int .i64 (bH wd p (bj G)).r,.int .i64 (bH wd p (bj G)).c,.bool (bH wd p (bj G)).pd,.bool (bH wd p (bj G)).au]/\HeldE lineE (fun _=>True) w' v' (bH wd p (bj G)).L)/\Below w1.heap.size w1 w') :=
 (nb (ZQ w gp gr gf gb R op) v gv bv p G bs _ w1 wd ht ((bD h.2.1).below hb) ((bD h.2.2.1).below hb) ((bD h.2.2.2).below hb) (mj hb.size) hs hp hn hG.bounds hG.ok).mono fun _ _ ⟨v',e,k,hb⟩=>⟨_,e,⟨v',rfl,k.zone fun _ _ _=>trivial⟩,hb⟩
theorem QBox.held(hn:bs.length<=1000000)(hr:inBytes bs) :
  Calls Tryz.prog 38 #[.agg #[v,.int .i64 p.r,.int .i64 p.c,.bool p.pd,.bool p.au,gv,bv,.int .i64 ((aA st0 bs).length:Nat)]] w1 (Gives w1 (.int .i64 (aF st0 bs).2.2)) :=
 iV (ZQ w gp gr gf gb R op) v gv bv p G bs _ w1 ((bD h.2.1).below hb) ((bD h.2.2.1).below hb) ((bD h.2.2.2).below hb) hn hr
theorem QBox.openG(hn:G.length<=1000000)(hG:AllV G) :
  Calls Tryz.prog 39 #[.agg #[v,.int .i64 p.r,.int .i64 p.c,.bool p.pd,.bool p.au,gv,bv,.int .i64 ((aA st0 bs).length:Nat)]] w1 (fun e w'=>∃ x,e=.returned x/\HeldE (aE .i32) (fun _=>True) w' x (eI G)/\Below w1.heap.size w1 w') :=
 rx (ZQ w gp gr gf gb R op) v gv bv p G bs _ w1 ((bD h.2.1).below hb) ((bD h.2.2.1).below hb) ((bD h.2.2.2).below hb) (mj hb.size) hn hG.bounds hG.ok
omit hb in
theorem QBox.hasAt(hF:FAt Xo w B gp gg gr wd gf R p' xs s op)(hb:Below w.heap.size w w1):Has w1 gb [v,.int .i64 p.r,.int .i64 p.c,.bool p.pd,.bool p.au,gv,bv,.int .i64 ((aA st0 bs).length:Nat)] 66:=h.1.below hb h.1.lt
end
end
end Go.Proofs.YtoeggiplcaegoaaGreatDoor
