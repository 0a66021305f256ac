import Derived.Test.YtoeggiplcaegoaaGreatDoorZ0
import Derived.Test.YtoeggiplcaegoaaGreatDoorFedX
import Derived.Test.YtoeggiplcaegoaaGreatDoorMg9
import Derived.Test.YtoeggiplcaegoaaGreatDoorMg6
set_option maxRecDepth 100000
set_option linter.unusedVariables false
set_option linter.unusedSimpArgs false
set_option maxHeartbeats 400000
namespace Go.Proofs.YtoeggiplcaegoaaGreatDoor
open Go.RowKit Go.ChangeShapes Go.WideShapes
def wfV(l b h:Int):Prop:=h=0\/(aw l=2/\h=1/\0<=b/\b<32)\/(aw l=3/\h=1/\b=l - 224/\224<=l/\l<=239)\/(aw l=3/\h=2/\0<=b/\b<1024/\(b<864\/896<=b))\/(aw l=4/\h=1/\b=l - 240/\240<=l/\l<=244)\/(aw l=4/\h=2/\16<=b/\b<272)\/(aw l=4/\h=3/\1024<=b/\b<17408)
theorem nx(x:Int)(x0:0<=x)(x1:x<=255):wfV (bB x) (aV x) (bC x)/\∀ y ∈ be x,bj y=true:=by
 unfold wfV bB aV bC be bY
 rcases bq x with ⟨h2,hs⟩ | ⟨h2,h3,hs⟩ | ⟨h2,h3,hs⟩ | ⟨h2,h3,hs⟩ | ⟨h2,h3,hs⟩ | ⟨h2,hs⟩
 all_goals (rw [hs];simp [hs,validB_true];try omega)
theorem qy{l x:Int}(h:bN l 1 x=true):lo2 l<=x/\x<=hi2 l:=by
 unfold bN at h
 simpa using h
theorem vd{l h x:Int}(h1:1<h)(h:bN l h x=true):128<=x/\x<=191:=by
 unfold bN at h;rw [if_pos h1] at h;exact tailB_true.1 h
theorem yo(l b h x:Int)(hw:wfV l b h)(x0:0<=x)(x1:x<=255):wfV (dZ l h x) (da l b h x) (ed l h x)/\∀ y ∈ dR l b h x,bj y=true:=by
 unfold dZ da ed dR
 by_cases hz:h=0
 ·rw [if_pos hz,if_pos hz,if_pos hz,if_pos hz];exact nx x x0 x1
 rw [if_neg hz,if_neg hz,if_neg hz,if_neg hz]
 by_cases hx:bN l h x=true
 ·rw [if_pos hx,if_pos hx,if_pos hx,if_pos hx]
  rcases hw with hw | ⟨e,rfl,b0,b1⟩ | ⟨e,rfl,b0,l0,l1⟩ | ⟨e,rfl,b0,b1,b2⟩ | ⟨e,rfl,b0,l0,l1⟩ | ⟨e,rfl,b0,b1⟩ | ⟨e,rfl,b0,b1⟩
  ·exact absurd hw hz
  ·rw [e,if_neg (by decide),if_neg (by decide),if_neg (by decide),if_neg (by decide)];refine ⟨.inl rfl,fun y hy=>?_⟩;obtain rfl:y=b * 64+x % 64:=by simpa using hy
   exact validB_true.2 (by omega)
  ·rw [e,if_pos (by decide),if_pos (by decide),if_pos (by decide),if_pos (by decide)];have hn:=qy hx;unfold lo2 hi2 at hn;rw [e] at hn;refine ⟨.inr (.inr (.inr (.inl ⟨e,rfl,?_⟩))),fun y hy=>by cases hy⟩;obtain ⟨n1,n2⟩:=hn;rw [if_neg (by decide)] at n1 n2
   split at n1 <;> split at n2 <;> (try split at n2) <;> (try split at n1) <;> omega
  ·rw [e,if_neg (by decide),if_neg (by decide),if_neg (by decide),if_neg (by decide)];refine ⟨.inl rfl,fun y hy=>?_⟩;obtain rfl:y=b * 64+x % 64:=by simpa using hy
   exact validB_true.2 (by omega)
  ·rw [e,if_pos (by decide),if_pos (by decide),if_pos (by decide),if_pos (by decide)];have hn:=qy hx;unfold lo2 hi2 at hn;rw [e] at hn;refine ⟨.inr (.inr (.inr (.inr (.inr (.inl ⟨e,rfl,?_⟩))))),fun y hy=>by cases hy⟩;obtain ⟨n1,n2⟩:=hn;rw [if_neg (by decide)] at n1 n2
   split at n1 <;> split at n2 <;> (try split at n2) <;> (try split at n1) <;> omega
  ·rw [e,if_pos (by decide),if_pos (by decide),if_pos (by decide),if_pos (by decide)];have hn:=vd (by decide) hx;refine ⟨.inr (.inr (.inr (.inr (.inr (.inr ⟨e,rfl,?_⟩))))),fun y hy=>by cases hy⟩;omega
  ·rw [e,if_neg (by decide),if_neg (by decide),if_neg (by decide),if_neg (by decide)];refine ⟨.inl rfl,fun y hy=>?_⟩;obtain rfl:y=b * 64+x % 64:=by simpa using hy
   exact validB_true.2 (by omega)
 ·rw [if_neg hx,if_neg hx,if_neg hx,if_neg hx];obtain ⟨h1,h2⟩:=nx x x0 x1;refine ⟨h1,fun y hy=>?_⟩
  rcases List.mem_cons.1 hy with e | e
  ·rw [e];exact validB_true.2 (by omega)
  ·exact h2 y e
theorem i4:∀ (L:List Int) (s:St),wfV s.1 s.2.1 s.2.2->(∀ x ∈ L,0<=x/\x<=255)->(∀ y ∈ aE s L,bj y=true)/\wfV (aI s L).1 (aI s L).2.1 (aI s L).2.2
 |[],s,h,_=>⟨(fun y hy=>by cases hy),h⟩
 |x :: L,s,h,hL=>by
  obtain ⟨h1,h2⟩:=yo s.1 s.2.1 s.2.2 x h (hL x (by simp)).1 (hL x (by simp)).2;obtain ⟨k1,k2⟩:=i4 L (ch s x) h1 (fun y hy=>hL y (by simp [hy]));refine ⟨fun y hy=>?_,k2⟩
  rcases List.mem_append.1 hy with e | e
  ·exact h2 y e
  ·exact k1 y e
theorem se{L:List Int}(h:inBytes L):∀ x ∈ L,0<=x/\x<=255:=fun x hx=>by
 have:=h.mem L.length x;rw [List.take_length] at this;exact this hx
theorem yp:wfV st0.1 st0.2.1 st0.2.2:=.inl rfl
theorem yq{y:Int}(h:bj y=true):bg y=y:=by unfold bg;rw [if_pos h]
theorem oX{xs:List Int}(h:∀ y ∈ xs,bj y=true):cQ xs:=fun i hi=>by
 have:=validB_true.1 (h (xs.getD i 0) (by rw [List.getD,List.getElem?_eq_getElem hi];exact List.getElem_mem hi));omega
theorem yr(y:Int):bj (bg y)=true:=by
 unfold bg
 split
 ·assumption
 ·exact validB_true.2 (by omega)
def AllV(xs:List Int):Prop:=∀ y ∈ xs,bj y=true
theorem AllV.ok{xs:List Int}(h:AllV xs):okT xs:=fun y hy=>yq (h y hy)
theorem AllV.bounds{xs:List Int}(h:AllV xs):cQ xs:=oX h
theorem AllV.app{xs ys:List Int}(h:AllV xs)(k:AllV ys):AllV (xs++ys):=fun y hy=>(List.mem_append.1 hy).elim (h y) (k y)
theorem AllV.nil:AllV []:=fun _ h=>by cases h
theorem AllV.told{bs c:List Int}(hb:inBytes bs)(hc:inBytes c):AllV (aE (aI st0 bs) c):=(i4 c _ (i4 bs st0 yp (se hb)).2 (se hc)).1
theorem AllV.one(x:Int):AllV [bg x]:=fun y hy=>by
 obtain rfl:y=bg x:=by simpa using hy
 exact yr x
theorem AllV.fl(s:St):AllV (flT s):=by
 unfold flT
 split
 ·exact fun y hy=>by
   obtain rfl:y=65533:=by simpa using hy
   decide
 ·exact AllV.nil
theorem Ak:inBytes []:=fun i hi=>absurd hi (by simp)
theorem yt{bs:List Int}(hb:inBytes bs):wfS (aI st0 bs):=jF _ _ me (se hb)
section
variable {Xo : an}
def Aside(t:TypeId):Prop:=t≠42/\t≠119/\t≠113/\t≠187/\t≠147/\t≠143/\t≠130
section
variable {w w1 w2 : World} {B gp gg gr wd gf gb : Nat} {R R1 : List Rw} {op op1 : Option Nat} {p p' pF : Pn} {xs : List Int} {s : St} {C : List Value} {t : TypeId}
theorem PenY.aside{Yo:an}{Ls:List Ln}{r c:Int}{pd au:Bool}(h:PenY Yo w B gp gg gr wd R Ls r c pd au)(hg:Has w gb C t)(ht:Aside t)(hx:iS w gb)(hu:Upd (fun b=>b=gb) w w1):PenY Yo w1 B gp gg gr wd R Ls r c pd au :=
 ⟨hu.keep.has h.1 (fun e=>by subst e;exact aH hg h.1 ht.1),h.2.1,h.2.2.1.pen hx (h.2.2.1.other hg ht.2.1 ht.2.2.1 ht.2.2.2.1 ht.2.2.2.2.1) hu,h.2.2.2⟩
theorem FAt.off(h:FAt Xo w B gp gg gr wd gf R p xs s op)(hg:Has w gb C t)(ht:Aside t):¬ FW w gp gr gf R op gb:=by
 obtain ⟨t0,t1,t2,t3,t4,t5,t6⟩:=ht;rintro ((e | e) | e)
 ·obtain ⟨_,_,h2⟩:=h.2.pen;exact oV h2.any hg t0 t1 t2 t3 t4 e
 ·obtain ⟨Yo,h1,h2,h3⟩:=h.2
  cases ho:cm xs with
  |false=>rw [(h2 ho).1] at e;cases e
  |true =>
   obtain ⟨g,e1,_,e3⟩:=h3 ho;rw [e1] at e
   cases e
   exact aH hg e3.2.1 t6
 ·subst e;exact aH hg h.1 t5
theorem FAt.beside(h:FAt Xo w B gp gg gr wd gf R p xs s op)(hg:Has w gb C t)(ht:Aside t)(hx:iS w gb)(hu:Upd (fun b=>b=gb) w w1):FAt Xo w1 B gp gg gr wd gf R p xs s op:=by
 have hne:gf≠gb:=fun e=>h.off hg ht (.inr e.symm)
 refine ⟨hu.keep.has h.1 (fun e=>hne e),?_⟩;have hof:=h.off hg ht;obtain ⟨Yo,h1,h2,h3⟩:=h.2;refine ⟨Yo,h1,fun e=>⟨(h2 e).1,(h2 e).2.aside hg ht hx hu⟩,fun e=>?_⟩;obtain ⟨g,e1,e2,e3⟩:=h3 e;exact ⟨g,e1,e2,e3.1.aside hg ht hx hu,hu.keep.has e3.2.1 (fun e=>hof (.inl (.inr (by rw [e1,e])))),e3.2.2⟩
def QBox(w:World)(gp gr gf gb:Nat)(R:List Rw)(op:Option Nat)(p:Pn)(G bs:List Int)(v gv bv:Value):Prop :=
 Has w gb [v,.int .i64 p.r,.int .i64 p.c,.bool p.pd,.bool p.au,gv,bv,.int .i64 ((aE st0 bs).length:Nat)] 66/\HeldE lineE (fun b=>¬ FW w gp gr gf R op b/\b≠gb) w v p.L/\HeldE (aF .i32) (fun b=>¬ FW w gp gr gf R op b/\b≠gb) w gv G/\HeldE (aF .u8) (fun b=>¬ FW w gp gr gf R op b/\b≠gb) w bv bs
theorem lm:Aside 66:=by unfold Aside;decide
variable {G bs G' bs' : List Int} {v gv bv v' gv' bv' : Value}
theorem QBox.notx(h:QBox w gp gr gf gb R op p G bs v gv bv):iS w gb:=fun q x e=>by
 obtain ⟨h1,h2,h3,h4⟩:=h;obtain ⟨o1,k1,rfl⟩:=h2.len;obtain ⟨o2,k2,rfl⟩:=h3.len;obtain ⟨o3,k3,rfl⟩:=h4.len;rw [cell_of_row w gb q _ _ (0,0) h1] at e
 match q with
 | 0=>simp at e
 | 1=>simp at e
 | 2=>simp at e
 | 3=>simp at e
 | 4=>simp at e
 | 5=>simp at e
 | 6=>simp at e
 | 7=>simp at e
 | q+8=>simp at e
theorem fwz{α:Type}{E:Elem α}{x:Value}{L:List α}(hx:HeldE E (fun b=>¬ FW w gp gr gf R op b/\b≠gb) w x L)(hu:Upd (FW w gp gr gf R op) w w1)(hf:RowsFrom w R R1)(ho:∀ g,op1=some g->op=some g\/w.heap.size<=g):HeldE E (fun b=>¬ FW w1 gp gr gf R1 op1 b/\b≠gb) w1 x L :=
 (hx.upd hu fun b hz e=>hz.1 e).zone fun b _ hz=>⟨fun e=>hz.1 (FW.from hf ho hu.size b e),hz.2⟩
theorem QBox.go(h:QBox w gp gr gf gb R op p G bs v gv bv)(hF:FAt Xo w B gp gg gr wd gf R p' xs s op)(hu:Upd (FW w gp gr gf R op) w w1)(hf:RowsFrom w R R1)(ho:∀ g,op1=some g->op=some g\/w.heap.size<=g):QBox w1 gp gr gf gb R1 op1 p G bs v gv bv :=
 ⟨hu.keep.has h.1 (hF.off h.1 lm),fwz h.2.1 hu hf ho,fwz h.2.2.1 hu hf ho,fwz h.2.2.2 hu hf ho⟩
theorem QBox.below(h:QBox w gp gr gf gb R op p G bs v gv bv)(hF:FAt Xo w B gp gg gr wd gf R p' xs s op)(hb:Below w.heap.size w w1):QBox w1 gp gr gf gb R op p G bs v gv bv :=
 h.go hF ((Upd.ofBelow hb).mono fun b _ e=>.inl (.inl (.inr (.inr (.inr e))))) (RowsFrom.self _ _) fun _ e=>.inl e
theorem cP{α:Type}{E:Elem α}{x:Value}{L:List α}(hx:HeldE E (fun b=>¬ FW w gp gr gf R op b/\b≠gb) w x L):HeldE E (fun b=>(¬ FW w gp gr gf R op b/\b≠gb)/\b<w.heap.size) w x L:=hx.zone fun _ hb hz=>⟨hz,hb⟩
theorem vH{α:Type}{E:Elem α}{x:Value}{L:List α}(hF:FAt Xo w B gp gg gr wd gf R p' xs s op)(hg:gb<w.heap.size)(hb:Below w.heap.size w w1)(hx:HeldE E (ZB (fun b=>(¬ FW w gp gr gf R op b/\b≠gb)/\b<w.heap.size) w w1) w1 x L):HeldE E (fun b=>¬ FW w1 gp gr gf R op b/\b≠gb) w1 x L :=
 hx.zone fun b hl hz=>by
  rcases hz with hz | hz
  ·exact ⟨fun e=>hz.1.1 (FW.from (RowsFrom.self _ _) (fun _ e=>.inl e) hb.size b e),hz.1.2⟩
  ·exact ⟨lq hF hz.1 hl,by omega⟩
theorem QBox.put(h:QBox w gp gr gf gb R op p G bs v gv bv)(hF:FAt Xo w B gp gg gr wd gf R pF xs s op)(hb:Below w.heap.size w w1)
  (hv:HeldE lineE (ZB (fun b=>(¬ FW w gp gr gf R op b/\b≠gb)/\b<w.heap.size) w w1) w1 v' p'.L) (hg:HeldE (aF .i32) (ZB (fun b=>(¬ FW w gp gr gf R op b/\b≠gb)/\b<w.heap.size) w w1) w1 gv' G') (De:HeldE (aF .u8) (ZB (fun b=>(¬ FW w gp gr gf R op b/\b≠gb)/\b<w.heap.size) w w1) w1 bv' bs') :
  QBox (qC w1 gb v' (.int .i64 p'.r) (.int .i64 p'.c) (.bool p'.pd) (.bool p'.au) gv' bv' (.int .i64 ((aE st0 bs').length:Nat))) gp gr gf gb R op p' G' bs' v' gv' bv'/\FAt Xo (qC w1 gb v' (.int .i64 p'.r) (.int .i64 p'.c) (.bool p'.pd) (.bool p'.au) gv' bv' (.int .i64 ((aE st0 bs').length:Nat))) B gp gg gr wd gf R pF xs s op:=by
 have Ea:=h.below hF hb;have hF1:=hF.below hb;have hu:=mj w1 gb v' (.int .i64 p'.r) (.int .i64 p'.c) (.bool p'.pd) (.bool p'.au) gv' bv' (.int .i64 ((aE st0 bs').length:Nat));have hn:∀ {x:Value} {α:Type} {E:Elem α} {L:List α},HeldE E (ZB (fun b=>(¬ FW w gp gr gf R op b/\b≠gb)/\b<w.heap.size) w w1) w1 x L->HeldE E (fun b=>¬ FW (qC w1 gb v' (.int .i64 p'.r) (.int .i64 p'.c) (.bool p'.pd) (.bool p'.au) gv' bv' (.int .i64 ((aE st0 bs').length:Nat))) gp gr gf R op b/\b≠gb) (qC w1 gb v' (.int .i64 p'.r) (.int .i64 p'.c) (.bool p'.pd) (.bool p'.au) gv' bv' (.int .i64 ((aE st0 bs').length:Nat))) x L:=fun hx =>
  ((vH hF h.1.lt hb hx).upd hu fun b hz e=>hz.2 e).zone fun b hl hz=>⟨fun e=>hz.1 (FW.from (RowsFrom.self _ _) (fun _ e=>.inl e) hu.size b e),hz.2⟩
 exact ⟨⟨ml Ea.1 _ _ _ _ _ _ _ _,hn hv,hn hg,hn De⟩,hF1.beside Ea.1 lm Ea.notx hu⟩
end
end
section
variable {Xo : an}
section
variable {w w1 w2 : World} {B gp gg gr wd gf gb ht : Nat} {R R1 : List Rw} {op op1 : Option Nat} {p p' pF : Pn} {xs : List Int} {s : St} {G bs G' bs' : List Int} {v gv bv v' gv' bv' : Value}
abbrev ZQ(w:World)(gp gr gf gb:Nat)(R:List Rw)(op:Option Nat):an:=fun b=>(¬ FW w gp gr gf R op b/\b≠gb)/\b<w.heap.size
def RQ(w:World)(gp gr gf gb:Nat)(R:List Rw)(op:Option Nat)(p:Pn)(G bs:List Int)(x:Value)(w2:World):Prop :=
 ∃ v gv bv,x=.agg #[v,.int .i64 p.r,.int .i64 p.c,.bool p.pd,.bool p.au,gv,bv,.int .i64 ((aE st0 bs).length:Nat)]/\HeldE lineE (ZB (ZQ w gp gr gf gb R op) w w2) w2 v p.L/\HeldE (aF .i32) (ZB (ZQ w gp gr gf gb R op) w w2) w2 gv G/\HeldE (aF .u8) (ZB (ZQ w gp gr gf gb R op) w w2) w2 bv bs
theorem nQ{Z:an}(h1:w.heap.size<=w1.heap.size)(h2:w1.heap.size<=w2.heap.size){b:Nat}(h:ZB Z w w1 b):ZB Z w w2 b:=by
 rcases h with h | h
 ·exact .inl h
 ·exact .inr ⟨h.1,by omega⟩
theorem nR{Z:an}(h1:w.heap.size<=w1.heap.size){b:Nat}(h:ZB Z w1 w2 b):ZB Z w w2 b:=by
 rcases h with h | h
 ·exact .inl h
 ·exact .inr ⟨by omega,h.2⟩
theorem RQ.below{x:Value}(h:RQ w gp gr gf gb R op p G bs x w1)(h1:w.heap.size<=w1.heap.size)(hb:Below w1.heap.size w1 w2):RQ w gp gr gf gb R op p G bs x w2:=by
 obtain ⟨v,gv,bv,e,k1,k2,k3⟩:=h;exact ⟨v,gv,bv,e,(k1.below hb).zone fun b _ hz=>nQ h1 hb.size hz,(k2.below hb).zone fun b _ hz=>nQ h1 hb.size hz,(k3.below hb).zone fun b _ hz=>nQ h1 hb.size hz⟩
theorem RQ.of{n:Int}{e:Ending}(hb:Below w.heap.size w w1)(hn:n=((aE st0 bs).length:Nat))(h:RFd (ZQ w gp gr gf gb R op) w1 p G bs n e w2):∃ x,e=.returned x/\RQ w gp gr gf gb R op p G bs x w2/\Below w1.heap.size w1 w2:=by
 obtain ⟨v,gv,bv,rfl,k1,k2,k3,k4⟩:=h;subst hn;exact ⟨_,rfl,⟨v,gv,bv,rfl,k1.zone fun b _ hz=>nR hb.size hz,k2.zone fun b _ hz=>nR hb.size hz,k3.zone fun b _ hz=>nR hb.size hz⟩,k4⟩
theorem QBox.store{x:Value}(h:QBox w gp gr gf gb R op p G bs v gv bv)(hF:FAt Xo w B gp gg gr wd gf R pF xs s op)(hb:Below w.heap.size w w1)(hr:RQ w gp gr gf gb R op p' G' bs' x w1):∃ v' gv' bv',x=.agg #[v',.int .i64 p'.r,.int .i64 p'.c,.bool p'.pd,.bool p'.au,gv',bv',.int .i64 ((aE st0 bs').length:Nat)] /\
  QBox (qC w1 gb v' (.int .i64 p'.r) (.int .i64 p'.c) (.bool p'.pd) (.bool p'.au) gv' bv' (.int .i64 ((aE st0 bs').length:Nat))) gp gr gf gb R op p' G' bs' v' gv' bv'/\FAt Xo (qC w1 gb v' (.int .i64 p'.r) (.int .i64 p'.c) (.bool p'.pd) (.bool p'.au) gv' bv' (.int .i64 ((aE st0 bs').length:Nat))) B gp gg gr wd gf R pF xs s op:=by
 obtain ⟨v',gv',bv',e,k1,k2,k3⟩:=hr;exact ⟨v',gv',bv',e,h.put hF hb k1 k2 k3⟩
theorem vG(hb:w.heap.size<=w1.heap.size):∀ b,ZQ w gp gr gf gb R op b->b<w1.heap.size:=fun b h=>Nat.lt_of_lt_of_le h.2 hb
variable (h : QBox w gp gr gf gb R op p G bs v gv bv) (hb : Below w.heap.size w w1)
include h hb
theorem QBox.bytes{cv:Value}{c:List Int}(hc:HeldE (aF .u8) (fun b=>¬ FW w gp gr gf R op b/\b≠gb) w cv c)(hG:G.length<=600000)(Iu:bs.length+c.length<=100000)(hbr:inBytes bs)(Lw:inBytes c) :
  Calls Tryz.prog 33 #[.agg #[v,.int .i64 p.r,.int .i64 p.c,.bool p.pd,.bool p.au,gv,bv,.int .i64 ((aE st0 bs).length:Nat)],cv] w1 (fun e w2=>∃ x,e=.returned x/\RQ w gp gr gf gb R op p (G++aE (aI st0 bs) c) (bs++c) x w2/\Below w1.heap.size w1 w2) :=
 (qA (ZQ w gp gr gf gb R op) v gv bv p G bs _ cv c w1 ((cP h.2.1).below hb) ((cP h.2.2.1).below hb) ((cP h.2.2.2).below hb) (vG hb.size) ((cP hc).below hb) hG Iu hbr Lw rfl).mono fun _ _ k=>RQ.of hb rfl k
theorem QBox.close(hs:fy wd ht)(hp:PnOk wd ht p)(hn:G.length<=1000000)(hG:AllV G) :
  Calls Tryz.prog 36 #[.agg #[v,.int .i64 p.r,.int .i64 p.c,.bool p.pd,.bool p.au,gv,bv,.int .i64 ((aE st0 bs).length:Nat)]] w1 (fun e w2=>∃ y,e=.returned y/\RQ w gp gr gf gb R op (bP wd p (bJ G)) [] bs y w2/\Below w1.heap.size w1 w2) :=
 (qB (ZQ w gp gr gf gb R op) v gv bv p G bs _ w1 wd ht ((cP h.2.1).below hb) ((cP h.2.2.1).below hb) ((cP h.2.2.2).below hb) (vG hb.size) hs hp hn hG.bounds hG.ok).mono fun _ _ k=>RQ.of hb rfl k
theorem QBox.pen(hs:fy wd ht)(hp:PnOk wd ht p)(hn:G.length<=1000000)(hG:AllV G) :
  Calls Tryz.prog 37 #[.agg #[v,.int .i64 p.r,.int .i64 p.c,.bool p.pd,.bool p.au,gv,bv,.int .i64 ((aE st0 bs).length:Nat)]] w1 (fun e w'=>∃ x,e=.returned x/\(∃ v',x=.agg #[v',.int .i64 (bP wd p (bJ G)).r,.int .i64 (bP wd p (bJ G)).c,.bool (bP wd p (bJ G)).pd,.bool (bP wd p (bJ G)).au]/\HeldE lineE (fun _=>True) w' v' (bP wd p (bJ G)).L)/\Below w1.heap.size w1 w') :=
 (nA (ZQ w gp gr gf gb R op) v gv bv p G bs _ w1 wd ht ((cP h.2.1).below hb) ((cP h.2.2.1).below hb) ((cP h.2.2.2).below hb) (vG hb.size) hs hp hn hG.bounds hG.ok).mono fun _ _ ⟨v',e,k,hb⟩=>⟨_,e,⟨v',rfl,k.zone fun _ _ _=>trivial⟩,hb⟩
theorem QBox.held(hn:bs.length<=1000000)(hr:inBytes bs) :
  Calls Tryz.prog 38 #[.agg #[v,.int .i64 p.r,.int .i64 p.c,.bool p.pd,.bool p.au,gv,bv,.int .i64 ((aE st0 bs).length:Nat)]] w1 (Gives w1 (.int .i64 (aI st0 bs).2.2)) :=
 mm (ZQ w gp gr gf gb R op) v gv bv p G bs _ w1 ((cP h.2.1).below hb) ((cP h.2.2.1).below hb) ((cP h.2.2.2).below hb) hn hr
omit hb in
end
end
section
variable {Xo : an}
section
variable {Yo S : an} {w w1 w2 : World} {B gp gg gr wd gf : Nat} {R R1 : List Rw} {op op1 : Option Nat} {p : Pn} {xs : List Int} {s : St} {Ls : List Ln} {r c : Int} {pd au : Bool}
theorem GridY.far(h:GridY Yo w B gg gr wd R)(hu:Upd S w w1)(hX:∀ b,Yo b->b<w.heap.size->¬ S b)(hg:¬ S gg)(hr:¬ S gr)(hR:∀ i,i<R.length->¬ S (R.getD i r0).g/\¬ S (R.getD i r0).gc):GridY Yo w1 B gg gr wd R:=by
 obtain ⟨Z,cap,h1,h2,h3,h4,h5,h6,h7,h8,h9,h10,hY⟩:=h;have hk:=hu.keep;refine ⟨Z,cap,fun b hz=>⟨(h1 b hz).1,Nat.lt_of_lt_of_le (h1 b hz).2 hu.size⟩,hk.has h2 hg,h3,?_,h5,h6,h7.upd hu (fun b hz e=>hX b (hY b (.inl hz)) (h1 b hz).2 e) hR,h8,h9,h10,fun b hb=>hY b (hb.imp id (Nat.le_trans hu.size))⟩;exact cS (hk.own h4.ptrs fun b hb e=>by
  have:gr=b:=by simpa [Value.ownBlock] using hb
  exact hr (by rw [this];exact e))
theorem GridY.skip(h:GridY Yo w B gg gr wd R)(hb:Below w.heap.size w w1):GridY (fun b=>Yo b/\B<=b/\(b<w.heap.size\/w1.heap.size<=b)) w1 B gg gr wd R:=by
 obtain ⟨Z,cap,h1,h2,h3,h4,h5,h6,h7,h8,h9,h10,hY⟩:=h;have hu:Upd (fun b=>w.heap.size<=b) w w1:=.ofBelow hb;have hk:=hu.keep;have hgr:=(h4.lt gr rfl).2;have hB:B<=w.heap.size:=Nat.le_trans h3 (Nat.le_of_lt h2.lt);refine ⟨Z,cap,fun b hz=>⟨(h1 b hz).1,Nat.lt_of_lt_of_le (h1 b hz).2 hu.size⟩,hk.has h2 (by have:=h2.lt;omega),h3,?_,h5,h6,h7.upd hu (fun b hz e=>by have:=(h1 b hz).2;omega) (fun i hi=>by have:=h7.lt i hi;omega),h8,h9,h10,fun b hb=>?_⟩
 ·exact cS (hk.own h4.ptrs fun b hb e=>by
   have h9:gr=b:=by simpa [Value.ownBlock] using hb
   have h8:w.heap.size<=b:=e;omega)
 ·have hs:=hu.size
  rcases hb with hz | hz
  ·exact ⟨hY b (.inl hz),(h1 b hz).1,.inl (h1 b hz).2⟩
  ·exact ⟨hY b (.inr (by omega)),by omega,.inr hz⟩
theorem PenY.far(h:PenY Yo w B gp gg gr wd R Ls r c pd au)(hu:Upd S w w1)(hX:∀ b,Yo b->b<w.heap.size->¬ S b)(hg:¬ S gg)(hW:∀ b,PZ w gp gr R b->b<w.heap.size->¬ S b):PenY Yo w1 B gp gg gr wd R Ls r c pd au:=by
 have hl:=h.2.2.1.lt;exact ⟨hu.keep.has h.1 (hW gp (.inl rfl) h.lt),h.2.1,h.2.2.1.far hu hX hg (hW gr (.inr (.inl rfl)) hl.2.2.2.1) (fun i hi=>⟨hW _ (.inr (.inr (.inl ⟨i,hi,.inl rfl⟩))) (hl.2.2.2.2.2 i hi).1,hW _ (.inr (.inr (.inl ⟨i,hi,.inr rfl⟩))) (hl.2.2.2.2.2 i hi).2.1⟩),h.2.2.2⟩
theorem PenY.skip(h:PenY Yo w B gp gg gr wd R Ls r c pd au)(hb:Below w.heap.size w w1):PenY (fun b=>Yo b/\B<=b/\(b<w.heap.size\/w1.heap.size<=b)) w1 B gp gg gr wd R Ls r c pd au :=
 ⟨h.1.below hb h.lt,h.2.1,h.2.2.1.skip hb,h.2.2.2⟩
theorem FAt.far(h:FAt Xo w B gp gg gr wd gf R p xs s op)(hu:Upd S w w1)(hX:∀ b,Xo b->b<w.heap.size->¬ S b)(hg:¬ S gg)(hW:∀ b,FW w gp gr gf R op b->b<w.heap.size->¬ S b):FAt Xo w1 B gp gg gr wd gf R p xs s op:=by
 have hP:∀ b,PZ w gp gr R b->b<w.heap.size->¬ S b:=fun b e=>hW b (.inl (.inl e))
 refine ⟨hu.keep.has h.1 (hW gf (.inr rfl) h.lt),?_⟩;obtain ⟨Yo,h1,h2,h3⟩:=h.2;refine ⟨Yo,h1,fun e=>⟨(h2 e).1,(h2 e).2.far hu (fun b hb=>hX b (h1 b hb).2) hg hP⟩,fun e=>?_⟩;obtain ⟨g,e1,e2,e3⟩:=h3 e;exact ⟨g,e1,e2,e3.1.far hu (fun b hb=>hX b (h1 b hb).2) hg hP,hu.keep.has e3.2.1 (hW g (.inl (.inr e1)) e3.2.1.lt),e3.2.2⟩
theorem FAt.skip(h:FAt Xo w B gp gg gr wd gf R p xs s op)(hb:Below w.heap.size w w1):FAt (fun b=>Xo b/\B<=b/\(b<w.heap.size\/w1.heap.size<=b)) w1 B gp gg gr wd gf R p xs s op:=by
 refine ⟨Has.below h.1 hb h.1.lt,?_⟩;obtain ⟨Yo,h1,h2,h3⟩:=h.2;refine ⟨fun b=>Yo b/\B<=b/\(b<w.heap.size\/w1.heap.size<=b),fun x hx=>⟨(h1 x hx.1).1,(h1 x hx.1).2,hx.2⟩,fun e=>⟨(h2 e).1,(h2 e).2.skip hb⟩,fun e=>?_⟩;obtain ⟨g,e1,e2,e3⟩:=h3 e;exact ⟨g,e1,fun x hx=>e2 x hx.1,e3.1.skip hb,e3.2.below hb⟩
end
end
section
variable {Xo Xg : an}
section
variable {w w1 w2 : World} {B gp gg gr wd gf : Nat} {R R1 : List Rw} {op : Option Nat} {p : Pn} {xs : List Int} {s : St}
theorem vC(h:FAt Xo w B gp gg gr wd gf R p xs s none){b:Nat}(hb:b<w1.heap.size)(k:FW w1 gp gr gf R none b):b<w.heap.size:=by
 obtain ⟨_,_,hp⟩:=h.2.pen;have hl:=hp.lt;have hg:=hp.2.2.1.lt
 rcases k with (k | k) | k
 ·rcases k with k | k | ⟨i,hi,k⟩ | k
  ·omega
  ·omega
  ·have:=hg.2.2.2.2.2 i hi
   rcases k with k | k <;> omega
  ·omega
 ·cases k
 ·have:=h.lt;omega
theorem tg(h:FAt Xo w B gp gg gr wd gf R p xs s op){v:Value}{T:List Int}(ho:w.ownsRow 0 5 1 v T.length (T.map (Value.int .u8))):HeldE (aF .u8) (fun b=>¬ FW w gp gr gf R op b/\True) w v T:=by
 have hh:=bF ho
 rcases ho.2 with ⟨rfl,h0⟩ | ⟨g,cap,cur,rfl,LH,hb,IR,Cd,hsz,_⟩
 ·have:T=[]:=List.eq_nil_of_length_eq_zero (by omega);subst this;exact HeldE.nil _ _ _
 ·refine rd hh IR Cd fun a e _=>?_
  cases e
  have hH:Has w g cur.toList 5:=hb;exact ⟨h.off hH ⟨by decide,by decide,by decide,by decide,by decide,by decide,by decide⟩,trivial⟩
theorem qY(h:FAt Xo w B gp gg gr wd gf R p xs s op){n:Nat}{v:Value}{L:List (List Int)}{Bb:Nat}(ho:OwnB w Bb v n L):∃ ao cap,v=.slice ao n cap/\n=L.length/\n<=cap/\∀ i,i<n->∃ b u,ao=some ⟨b,0,none⟩/\b<w.heap.size/\¬ FW w gp gr gf R op b/\w.cell? ⟨b,i,none⟩=some u/\HeldE (aF .u8) (fun b=>¬ FW w gp gr gf R op b/\True) w u (L.getD i []):=by
 obtain ⟨us,h1,h2,h3⟩:=ho
 rcases h1.2 with ⟨rfl,h0⟩ | ⟨g,cap,cur,rfl,LH,hb,IR,Cd,hsz,_⟩
 ·exact ⟨none,0,by rw [h0],h2.symm,by omega,fun i hi=>by omega⟩
 ·refine ⟨_,cap,rfl,h2.symm,IR,fun i hi=>?_⟩;obtain ⟨u,hu,hou⟩:=h3 i hi;have hH:Has w g cur.toList 55:=hb;refine ⟨g,u,rfl,hH.lt,h.off hH ⟨by decide,by decide,by decide,by decide,by decide,by decide,by decide⟩,?_,tg h hou⟩;rw [h1.cellAt i (by omega)];exact hu
end
theorem vD{w:World}{g:Nat}{o:Option Addr}{n k:Nat}{r c:Int}{pd au:Bool}(h:Has w g [.slice o n k,.int .i64 r,.int .i64 c,.bool pd,.bool au] 43):iS w g:=fun q x e=>by
 rw [cell_of_row w g q _ _ (0,0) h] at e
 match q with
 | 0=>simp at e
 | 1=>simp at e
 | 2=>simp at e
 | 3=>simp at e
 | 4=>simp at e
 | q+5=>simp at e
theorem th(L:List (List Int))(k:Nat)(h:k<L.length):(L.take (k+1)).flatten=(L.take k).flatten++L.getD k []:=by
 rw [List.take_succ_eq_append_getElem h,List.flatten_append,show L.getD k []=L[k] from by simp [List.getD,List.getElem?_eq_getElem h]]
 simp
theorem vE{L:List (List Int)}{xs:List Int}(h:L.flatten=xs)(hx:inBytes xs)(i:Nat)(hi:i<L.length):inBytes (L.getD i [])/\inBytes ((L.take i).flatten):=by
 have key:∀ T:List Int,(∀ y ∈ T,y ∈ xs)->inBytes T:=fun T hT j hj=>by
  have hm:=hT _ (List.getElem_mem hj);obtain ⟨q,hq,e⟩:=List.getElem_of_mem hm;have:=hx q hq;rw [List.getD,List.getElem?_eq_getElem hj];rw [List.getD,List.getElem?_eq_getElem hq,e] at this;exact this
 refine ⟨key _ fun y hy=>?_,key _ fun y hy=>?_⟩
 ·rw [List.getD,List.getElem?_eq_getElem hi] at hy;rw [<-h];exact List.mem_flatten.2 ⟨_,List.getElem_mem hi,hy⟩
 ·obtain ⟨T,hT,hy⟩:=List.mem_flatten.1 hy;rw [<-h];exact List.mem_flatten.2 ⟨T,List.mem_of_mem_take hT,hy⟩
theorem ti(xs:List Int)(K:Nat)(hK:bZ xs K=xs.length):dm xs K=aE st0 xs++flT (aI st0 xs):=(qM xs K hK).2.symm
end
end Go.Proofs.YtoeggiplcaegoaaGreatDoor
