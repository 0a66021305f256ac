import Derived.Test.YtoeggiplcaegoaaGreatDoorZ0
import Derived.Test.YtoeggiplcaegoaaGreatDoorScrQ
import Derived.Test.YtoeggiplcaegoaaGreatDoorMg1
import Derived.Test.YtoeggiplcaegoaaGreatDoorCellP
import Derived.Test.YtoeggiplcaegoaaGreatDoorMg7
import Derived.Test.YtoeggiplcaegoaaGreatDoorMg6
import Derived.Test.YtoeggiplcaegoaaGreatDoorRowR
import Derived.Test.YtoeggiplcaegoaaGreatDoorCursorE
import Derived.Test.YtoeggiplcaegoaaGreatDoorCursorC
import Derived.Test.YtoeggiplcaegoaaGreatDoorScrP
import Derived.Lib.MinMax
set_option maxRecDepth 100000
set_option linter.unusedVariables false
set_option linter.unusedSimpArgs false
set_option maxHeartbeats 4000000
namespace Go.Proofs.YtoeggiplcaegoaaGreatDoor
open Go.RowKit Go.ChangeShapes Go.WideShapes
section
variable {Yo : an}
def mvd(Ls:List Ln)(a b k:Int)(up:Bool):List Ln:=if cB Ls.length a b k<1 then Ls else gM Ls (bD Ls.length a) (bD Ls.length b) (cB Ls.length a b k).toNat up
theorem jx(Ls:List Ln)(a b k:Int)(up:Bool):(mvd Ls a b k up).length=Ls.length:=by
 unfold mvd
 split
 ·rfl
 ·simp [gM]
theorem ut(v:Value)(Z:an)(Ls:List Ln)(a b k:Int)(up:Bool)(w:World)(hv:HeldE lineE Z w v Ls)(hZ:∀ b,Z b->b<w.heap.size)(hl:Ls.length<=1000)(KD:∀ i,i<Ls.length->(Ls.getD i zl).1.length<=1024):Calls Tryz.prog 170 #[v,.int .i64 a,.int .i64 b,.int .i64 k,.bool up] w (fun e w'=>∃ v',e=.returned v'/\HeldE lineE (fun b=>Z b\/(w.heap.size<=b/\b<w'.heap.size)) w' v' (mvd Ls a b k up)/\Below w.heap.size w w'):=by
 by_cases hk:cB Ls.length a b k<1
 ·refine (rM v Z Ls a b k up w hv hl hk).mono ?_;rintro e w' ⟨rfl,hb⟩;refine ⟨v,rfl,?_,hb⟩;unfold mvd;rw [if_pos hk];exact (hv.below hb).zone fun _ _ h=>.inl h
 ·have hq:cB Ls.length a b k=(((cB Ls.length a b k).toNat:Nat):Int):=by omega
  have h0:0<(cB Ls.length a b k).toNat:=by omega
  have hm:Calls Tryz.prog 170 #[v,.int .i64 a,.int .i64 b,.int .i64 k,.bool up] w (fp lineE (fun b=>Z b\/w.heap.size<=b) 104 w (gM Ls (bD Ls.length a) (bD Ls.length b) (cB Ls.length a b k).toNat up)):=by
   cases up with
   | true=>exact xh v Z Ls a b k _ _ _ w hv hZ hl KD rfl rfl hq h0
   | false=>exact rL v Z Ls a b k _ _ _ w hv hZ hl KD rfl rfl hq h0
  refine hm.mono ?_;rintro e w' ⟨v',rfl,ho,hb⟩;refine ⟨v',rfl,?_,hb⟩;unfold mvd;rw [if_neg hk];exact ((ho.zone (Y:=fun b=>Z b\/(w.heap.size<=b/\b<w'.heap.size)) (fun b hb h=>by rcases h with h | h;exact .inl h;exact .inr ⟨h,hb⟩)).held (fun b h1 h2=>.inr ⟨h1,h2⟩))
def RowsFrom(w:World)(Rs Rs':List Rw):Prop:=∀ i,i<Rs'.length->(∃ j,j<Rs.length/\(Rs'.getD i r0).g=(Rs.getD j r0).g/\(Rs'.getD i r0).gc=(Rs.getD j r0).gc)\/(w.heap.size<=(Rs'.getD i r0).g/\w.heap.size<=(Rs'.getD i r0).gc)
theorem RowsFrom.off{w:World}{Rs Rs':List Rw}(h:RowsFrom w Rs Rs')(k:Nat):RowsFrom w Rs (kG Rs' k):=by
 intro i hi;unfold kG at hi ⊢;rw [List.length_set] at hi
 by_cases e:k<Rs'.length
 ·rw [cy _ _ _ _ _ e]
  by_cases e2:i=k
  ·subst e2;rw [if_pos rfl];exact h i hi
  ·rw [if_neg e2];exact h i hi
 ·rw [List.set_eq_of_length_le (by omega)];exact h i hi
theorem zi{w:World}{Rs Ns:List Rw}{f t q:Nat}(hf:f<t)(ht:t<=Rs.length)(hq:q<=t - f)(hn:Ns.length=q)(PY:∀ i,i<Ns.length->w.heap.size<=(Ns.getD i r0).g/\w.heap.size<=(Ns.getD i r0).gc):RowsFrom w Rs (Rs.take f++cT Rs Ns f t q++Rs.drop (f+(cT Rs Ns f t q).length)):=by
 intro i hi;have Em:=ir (Rs:=Rs) (Ns:=Ns) (f:=f) (t:=t) (q:=q) (by omega) ht hq hn;have Oq:i<Rs.length:=by rw [List.length_append,List.length_append,List.length_take,List.length_drop,Em] at hi;omega
 rw [kf _ Em (by omega) ht]
 split
 ·exact .inl ⟨i,Oq,rfl,rfl⟩
 ·split
  ·rw [sH (by omega) ht hq hn _ (by omega)]
   split
   ·exact .inl ⟨_,by omega,rfl,rfl⟩
   ·exact .inr (PY _ (by omega))
  ·exact .inl ⟨i,Oq,rfl,rfl⟩
def xf(Yo:an)(w:World)(B gg gr wd:Nat)(Rs:List Rw)(Ls':List Ln)(e:Ending)(w':World):Prop:=e=.returned (.tuple #[])/\∃ Rs',GridY Yo w' B gg gr wd Rs'/\Rs'.map aO=Ls'/\Upd (kF w gr Rs) w w'/\RowsFrom w Rs Rs'
abbrev AT(w:World)(B gg gr wd:Nat)(Rs:List Rw)(Ls':List Ln)(e:Ending)(w':World):Prop:=xf (fun _=>True) w B gg gr wd Rs Ls' e w'
theorem sG{Rs:List Rw}{Ls:List Ln}(h:Rs.map aO=Ls):Rs.length=Ls.length:=by rw [<-h];simp
theorem RowsFrom.self(w:World)(Rs:List Rw):RowsFrom w Rs Rs:=fun i hi=>.inl ⟨i,hi,rfl,rfl⟩
theorem xg(B gg gr wd:Nat)(Rs:List Rw)(Ls:List Ln)(a b k:Int)(w:World)(h:GridY Yo w B gg gr wd Rs)(hL:Rs.map aO=Ls):Calls Tryz.prog 227 #[.pointer (some ⟨gg,0,none⟩),.int .i64 a,.int .i64 b,.int .i64 k] w (xf Yo w B gg gr wd Rs (mvd Ls a b k true)):=by
 have KP:=sG hL;have hsz:=h.sizes
 by_cases hk:cB Ls.length a b k<1
 ·refine (xj _ Ls.length (by omega) a b k w (by rw [<-KP];exact di B gg gr wd Rs w h) hk).mono ?_;rintro e w' ⟨rfl,rfl⟩;refine ⟨rfl,Rs,h,?_,.refl _ _,.self _ _⟩;unfold mvd;rw [if_pos hk,hL]
 ·have hq:cB Ls.length a b k=(((cB Ls.length a b k).toNat:Nat):Int):=by omega
  have h0:0<(cB Ls.length a b k).toNat:=by omega
  have MA:=fm Ls.length b;have EU:cB Ls.length a b k<=(bD Ls.length b:Int) - bD Ls.length a:=by unfold cB;omega
  refine (uw B gg gr wd (bD Ls.length a) (bD Ls.length b) (cB Ls.length a b k).toNat Rs a b k w h (by rw [KP]) (by rw [KP]) (by rw [KP];exact hq) h0).mono ?_;rintro e w' ⟨rfl,Ns,⟨hm,PY⟩,hg,hu⟩;refine ⟨rfl,_,hg,?_,hu,?_⟩
  ·unfold mvd;rw [if_neg hk];exact xi hL (by omega) (by omega) (by omega) hm (fun i hi=>hsz.2.2.2.2 i hi)
  ·have hr:=zi (w:=w) (f:=bD Ls.length a) (t:=bD Ls.length b) (q:=(cB Ls.length a b k).toNat) (Rs:=Rs) (by omega) (by omega) (by omega) (gC hm).1 PY
   split
   ·exact hr
   ·exact hr.off _
def OffG(Z:an)(gg gr:Nat)(Rs:List Rw):Prop:=∀ b,Z b->b≠gg/\b≠gr/\∀ i,i<Rs.length->b≠(Rs.getD i r0).g/\b≠(Rs.getD i r0).gc
theorem OffG.from{Z:an}{gg gr:Nat}{Rs Rs':List Rw}{w:World}(h:OffG Z gg gr Rs)(hz:∀ b,Z b->b<w.heap.size)(hr:RowsFrom w Rs Rs'):OffG Z gg gr Rs':=fun b hb=>by
 obtain ⟨h1,h2,h3⟩:=h b hb;refine ⟨h1,h2,fun i hi=>?_⟩;have hlt:=hz b hb
 rcases hr i hi with ⟨j,hj,e1,e2⟩ | ⟨e1,e2⟩
 ·rw [e1,e2];exact h3 j hj
 ·omega
theorem OffG.not{Z:an}{gg gr:Nat}{Rs:List Rw}{w:World}(h:OffG Z gg gr Rs)(hz:∀ b,Z b->b<w.heap.size)(b:Nat)(hb:Z b):¬ kF w gr Rs b:=by
 obtain ⟨h1,h2,h3⟩:=h b hb;have hlt:=hz b hb;rintro (e | ⟨i,hi,e⟩ | e)
 ·exact h2 e
 ·rcases e with e | e
  ·exact (h3 i hi).1 e
  ·exact (h3 i hi).2 e
 ·omega
end
section
variable {Yo : an}
def iS(w:World)(g:Nat):Prop:=∀ o x,w.cell? ⟨g,o,none⟩≠some (.int .i32 x)
theorem p8{Z:an}{w:World}{v:Value}{xs:List Int}{g:Nat}(h:HeldE (aF .i32) Z w v xs)(hg:iS w g):HeldE (aF .i32) (fun b=>Z b/\b≠g) w v xs:=by
 obtain ⟨ao,cap,rfl,hl,hm,hn,hc⟩:=h;refine ⟨ao,cap,rfl,hl,hm,hn,fun i hi=>?_⟩;obtain ⟨b,off,rfl,hb,hz,C,hC,hr⟩:=hc i hi;have Mn:C=[.int .i32 (xs.getD i 0)]:=hr;refine ⟨b,off,rfl,hb,⟨hz,fun e=>?_⟩,C,hC,hr⟩;subst e;have h0:=hC 0 (by decide);rw [Mn] at h0;exact hg _ _ h0
theorem zh{Z:an}{w:World}{B g gc gp:Nat}{L:List Cl}{wrap:Bool}(h:RowAt Z w B g gc L wrap)(hg:iS w gp):RowAt (fun b=>Z b/\b≠gp) w B g gc L wrap:=by
 obtain ⟨cap,h1,h2,h3,⟨CS,k1,k2,k3⟩,h5⟩:=h;refine ⟨cap,h1,h2,h3,⟨CS,k1,k2,fun i hi=>?_⟩,h5⟩;obtain ⟨tv,e,ht⟩:=cell_rep.1 (k3 i hi);exact cell_rep.2 ⟨tv,e,(p8 ht hg).zone fun b _ hz=>⟨⟨⟨hz.1.1.1,hz.2⟩,hz.1.1.2⟩,hz.1.2⟩⟩
theorem xe{Z:an}{w:World}{B gp:Nat}{Rs:List Rw}(h:RowsAt Z w B Rs)(hg:iS w gp):RowsAt (fun b=>Z b/\b≠gp) w B Rs :=
 ⟨fun i hi=>zh (h.row i hi) hg,fun i hi=>⟨fun hz=>(h.out i hi).1 hz.1,fun hz=>(h.out i hi).2 hz.1⟩,h.apart⟩
theorem GridY.off{w:World}{B gg gr wd gp:Nat}{Rs:List Rw}(h:GridY Yo w B gg gr wd Rs)(hg:iS w gp):∃ (Z:an) (cap:Nat),(∀ b,Z b->B<=b/\b<w.heap.size/\b≠gp)/\Has w gg [.int .i64 wd,.slice (some ⟨gr,0,none⟩) Rs.length cap] 119/\B<=gg/\OwnE ptrE (fun _=>True) w B 113 (.slice (some ⟨gr,0,none⟩) Rs.length cap) (ptrs Rs)/\¬ Z gg/\¬ Z gr/\RowsAt Z w B Rs/\(∀ i,i<Rs.length->(Rs.getD i r0).L.length=wd)/\0<Rs.length/\Rs.length<=1024/\∀ b,(Z b\/w.heap.size<=b)->Yo b:=by
 obtain ⟨Z,cap,h1,h2,h3,h4,h5,h6,h7,h8,h9,h10,hY⟩:=h;exact ⟨fun b=>Z b/\b≠gp,cap,fun b hz=>⟨(h1 b hz.1).1,(h1 b hz.1).2,hz.2⟩,h2,h3,h4,fun hz=>h5 hz.1,fun hz=>h6 hz.1,xe h7 hg,h8,h9,h10,fun b hb=>hY b (hb.imp And.left id)⟩
theorem GridY.other{w:World}{B gg gr wd g:Nat}{Rs:List Rw}(h:GridY Yo w B gg gr wd Rs){C:List Value}{t:TypeId}(hg:Has w g C t)(t1:t≠119)(t2:t≠113)(t3:t≠187)(t4:t≠147):g≠gg/\g≠gr/\∀ i,i<Rs.length->g≠(Rs.getD i r0).g/\g≠(Rs.getD i r0).gc:=by
 obtain ⟨Z,cap,h1,h2,h3,h4,h5,h6,h7,h8⟩:=h;obtain ⟨D,hD⟩:=gZ h4 (b:=gr) rfl;refine ⟨fun e=>by subst e;exact aH hg h2 t1,fun e=>by subst e;exact aH hg hD t2,fun i hi=>?_⟩;obtain ⟨⟨D,hD⟩,D',Kx⟩:=(h7.row i hi).types;exact ⟨fun e=>by subst e;exact aH hg hD t3,fun e=>by subst e;exact aH hg Kx t4⟩
theorem GridY.pen{w w':World}{B gg gr wd gp:Nat}{Rs:List Rw}(h:GridY Yo w B gg gr wd Rs)(hg:iS w gp)(ho:gp≠gg/\gp≠gr/\∀ i,i<Rs.length->gp≠(Rs.getD i r0).g/\gp≠(Rs.getD i r0).gc)(hu:Upd (fun b=>b=gp) w w'):GridY Yo w' B gg gr wd Rs:=by
 obtain ⟨Z,cap,h1,h2,h3,h4,h5,h6,h7,h8,h9,h10,hY⟩:=h.off hg;have hk:=hu.keep;refine ⟨Z,cap,fun b hz=>⟨(h1 b hz).1,Nat.lt_of_lt_of_le (h1 b hz).2.1 hu.size⟩,hk.has h2 (fun e=>ho.1 e.symm),h3,?_,h5,h6,h7.upd hu (fun b hz e=>(h1 b hz).2.2 e) (fun i hi=>⟨fun e=>(ho.2.2 i hi).1 e.symm,fun e=>(ho.2.2 i hi).2 e.symm⟩),h8,h9,h10,fun b hb=>hY b (hb.imp id (Nat.le_trans hu.size))⟩;exact cS (hk.own h4.ptrs fun b hb e=>by
  have:gr=b:=by simpa [Value.ownBlock] using hb
  exact ho.2.1 (by rw [this];exact e.symm))
end
section
variable {Yo : an}
def PenY(Yo:an)(w:World)(B gp gg gr wd:Nat)(Rs:List Rw)(Ls:List Ln)(r c:Int)(pd au:Bool):Prop :=
 Has w gp [.pointer (some ⟨gg,0,none⟩),.int .i64 r,.int .i64 c,.bool pd,.bool au] 42/\B<=gp/\GridY Yo w B gg gr wd Rs/\Rs.map aO=Ls
abbrev fX(w:World)(B gp gg gr wd:Nat)(Rs:List Rw)(Ls:List Ln)(r c:Int)(pd au:Bool):Prop:=PenY (fun _=>True) w B gp gg gr wd Rs Ls r c pd au
def PZ(w:World)(gp gr:Nat)(Rs:List Rw)(b:Nat):Prop:=b=gp\/kF w gr Rs b
theorem RowsFrom.trans{w w1:World}{Rs R1 R2:List Rw}(h:RowsFrom w Rs R1)(k:RowsFrom w1 R1 R2)(hs:w.heap.size<=w1.heap.size):RowsFrom w Rs R2:=fun i hi=>by
 rcases k i hi with ⟨j,hj,e1,e2⟩ | ⟨e1,e2⟩
 ·rcases h j hj with ⟨q,hq,f1,f2⟩ | ⟨f1,f2⟩
  ·exact .inl ⟨q,hq,e1.trans f1,e2.trans f2⟩
  ·exact .inr ⟨by omega,by omega⟩
 ·exact .inr ⟨by omega,by omega⟩
theorem PZ.from{w w1:World}{gp gr:Nat}{Rs R1:List Rw}(h:RowsFrom w Rs R1)(hs:w.heap.size<=w1.heap.size)(b:Nat)(hb:PZ w1 gp gr R1 b):PZ w gp gr Rs b:=by
 rcases hb with e | e | ⟨i,hi,e⟩ | e
 ·exact .inl e
 ·exact .inr (.inl e)
 ·rcases h i hi with ⟨q,hq,f1,f2⟩ | ⟨f1,f2⟩
  ·exact .inr (.inr (.inl ⟨q,hq,by rcases e with e | e;exact .inl (e.trans f1);exact .inr (e.trans f2)⟩))
  ·exact .inr (.inr (.inr (by rcases e with e | e <;> omega)))
 ·exact .inr (.inr (.inr (by omega)))
section
variable {w w1 w2 : World} {B gp gg gr wd : Nat} {Rs R1 : List Rw} {Ls : List Ln} {r c : Int} {pd au : Bool}
theorem PenY.notx(h:PenY Yo w B gp gg gr wd Rs Ls r c pd au):iS w gp:=fun o x e=>by
 rw [cell_of_row w gp o _ _ (0,0) h.1] at e
 match o with
 | 0=>simp at e
 | 1=>simp at e
 | 2=>simp at e
 | 3=>simp at e
 | 4=>simp at e
 | o+5=>simp at e
theorem PenY.other(h:PenY Yo w B gp gg gr wd Rs Ls r c pd au):gp≠gg/\gp≠gr/\∀ i,i<Rs.length->gp≠(Rs.getD i r0).g/\gp≠(Rs.getD i r0).gc:=h.2.2.1.other h.1 (by decide) (by decide) (by decide) (by decide)
theorem PenY.any(h:PenY Yo w B gp gg gr wd Rs Ls r c pd au):fX w B gp gg gr wd Rs Ls r c pd au:=⟨h.1,h.2.1,h.2.2.1.any,h.2.2.2⟩
theorem PenY.lt(h:PenY Yo w B gp gg gr wd Rs Ls r c pd au):gp<w.heap.size:=h.1.lt
theorem PenY.turn(h:PenY Yo w B gp gg gr wd Rs Ls r c pd au){r' c':Int}{pd' au':Bool}(hh:Has w1 gp [.pointer (some ⟨gg,0,none⟩),.int .i64 r',.int .i64 c',.bool pd',.bool au'] 42)(hu:Upd (fun b=>b=gp) w w1):PenY Yo w1 B gp gg gr wd Rs Ls r' c' pd' au' :=
 ⟨hh,h.2.1,h.2.2.1.pen h.notx h.other hu,h.2.2.2⟩
theorem PenY.off(h:PenY Yo w B gp gg gr wd Rs Ls r c pd au):¬ kF w gr Rs gp:=fun e=>by
 have ho:=h.other;have hl:=h.lt
 rcases e with e | ⟨i,hi,e⟩ | e
 ·exact ho.2.1 e
 ·rcases e with e | e
  ·exact (ho.2.2 i hi).1 e
  ·exact (ho.2.2 i hi).2 e
 ·omega
theorem PenY.grid(h:PenY Yo w B gp gg gr wd Rs Ls r c pd au){Ls':List Ln}(hg:GridY Yo w1 B gg gr wd R1)(hm:R1.map aO=Ls')(hu:Upd (kF w gr Rs) w w1):PenY Yo w1 B gp gg gr wd R1 Ls' r c pd au :=
 ⟨hu.keep.has h.1 h.off,h.2.1,hg,hm⟩
theorem PenY.below(h:PenY Yo w B gp gg gr wd Rs Ls r c pd au)(hb:Below w.heap.size w w1):PenY Yo w1 B gp gg gr wd Rs Ls r c pd au:=⟨h.1.below hb h.lt,h.2.1,h.2.2.1.below hb,h.2.2.2⟩
def PDoY(Yo:an)(w:World)(B gp gg gr wd:Nat)(Rs:List Rw)(Ls':List Ln)(r c:Int)(pd au:Bool)(w1:World):Prop:=∃ R1,PenY Yo w1 B gp gg gr wd R1 Ls' r c pd au/\Upd (PZ w gp gr Rs) w w1/\RowsFrom w Rs R1
abbrev PDo(w:World)(B gp gg gr wd:Nat)(Rs:List Rw)(Ls':List Ln)(r c:Int)(pd au:Bool)(w1:World):Prop:=PDoY (fun _=>True) w B gp gg gr wd Rs Ls' r c pd au w1
theorem PDoY.trans{L2:List Ln}{r2 c2:Int}{pd2 au2:Bool}(hu:Upd (PZ w gp gr Rs) w w1)(hf:RowsFrom w Rs R1)(k:PDoY Yo w1 B gp gg gr wd R1 L2 r2 c2 pd2 au2 w2):PDoY Yo w B gp gg gr wd Rs L2 r2 c2 pd2 au2 w2:=by
 obtain ⟨R2,h1,h2,h3⟩:=k;exact ⟨R2,h1,hu.trans (h2.mono fun b _ hb=>PZ.from hf hu.size b hb),hf.trans h3 hu.size⟩
theorem PDoY.turn(h:PenY Yo w B gp gg gr wd Rs Ls r c pd au){r' c':Int}{pd' au':Bool}(hh:Has w1 gp [.pointer (some ⟨gg,0,none⟩),.int .i64 r',.int .i64 c',.bool pd',.bool au'] 42)(hu:Upd (fun b=>b=gp) w w1):PDoY Yo w B gp gg gr wd Rs Ls r' c' pd' au' w1 :=
 ⟨Rs,h.turn hh hu,hu.mono fun b _ e=>.inl e,RowsFrom.self _ _⟩
theorem PDoY.grid(h:PenY Yo w B gp gg gr wd Rs Ls r c pd au){Ls':List Ln}(hg:GridY Yo w1 B gg gr wd R1)(hm:R1.map aO=Ls')(hu:Upd (kF w gr Rs) w w1)(hf:RowsFrom w Rs R1):PDoY Yo w B gp gg gr wd Rs Ls' r c pd au w1 :=
 ⟨R1,h.grid hg hm hu,hu.mono fun b _ e=>.inr e,hf⟩
theorem PDoY.below(h:PenY Yo w B gp gg gr wd Rs Ls r c pd au)(hb:Below w.heap.size w w1):PDoY Yo w B gp gg gr wd Rs Ls r c pd au w1:=⟨Rs,h.below hb,.ofBelow hb,RowsFrom.self _ _⟩
theorem PenY.sizes(h:PenY Yo w B gp gg gr wd Rs Ls r c pd au):0<Ls.length/\Ls.length<=1024/\0<wd/\wd<=1024/\Rs.length=Ls.length/\∀ i,i<Ls.length->(Ls.getD i zl).1.length=wd:=by
 have hs:=h.2.2.1.sizes;have hl:=sG h.2.2.2;refine ⟨by omega,by omega,hs.2.2.1,hs.2.2.2.1,hl,fun i hi=>?_⟩;rw [<-dJ h.2.2.2 i (by omega)];exact hs.2.2.2.2 i (by omega)
theorem m9{Rs:List Rw}{Ls:List Ln}(h:Rs.map aO=Ls)(i g gc:Nat)(L:List Cl)(b:Bool):(Rs.set i ⟨g,gc,L,b⟩).map aO=Ls.set i (L,b):=by rw [List.map_set,h];rfl
theorem p7{w:World}(Rs:List Rw)(i:Nat)(L:List Cl)(b:Bool):RowsFrom w Rs (Rs.set i ⟨(Rs.getD i r0).g,(Rs.getD i r0).gc,L,b⟩):=fun j hj=>by
 rw [List.length_set] at hj;refine .inl ⟨j,hj,?_⟩
 by_cases e:j=i
 ·subst e;rw [cy _ _ _ _ _ hj,if_pos rfl];exact ⟨rfl,rfl⟩
 ·rw [show (Rs.set i (⟨(Rs.getD i r0).g,(Rs.getD i r0).gc,L,b⟩ : Rw)).getD j r0=Rs.getD j r0 from by simp [List.getD,List.getElem?_set_ne (Ne.symm e)]];exact ⟨rfl,rfl⟩
theorem GridY.painted{i:Nat}{L:List Cl}{b:Bool}{f:FuncId}{args:Array Value}(h:GridY Yo w B gg gr wd Rs)(hi:i<Rs.length)(hl:L.length=wd)(hc:∀ Z:an,(∀ b,w.heap.size<=b->Z b)->RowAt Z w B (Rs.getD i r0).g (Rs.getD i r0).gc (Rs.getD i r0).L (Rs.getD i r0).wrap->Calls Tryz.prog f args w (jA Z B (Rs.getD i r0).g (Rs.getD i r0).gc w L b)) :
  Calls Tryz.prog f args w (fun e w1=>e=.returned .nilIface/\GridY Yo w1 B gg gr wd (Rs.set i ⟨(Rs.getD i r0).g,(Rs.getD i r0).gc,L,b⟩)/\Upd (fun x=>x=(Rs.getD i r0).g\/x=(Rs.getD i r0).gc) w w1):=by
 obtain ⟨cap',hp⟩:=h.part;have hap:=hp.apart (b:=gr) rfl;have Na:=hp.gapart;have hlt:=h.lt;obtain ⟨Z,cap,h1,h2,h3,h4,h5,h6,h7,h8,h9,h10⟩:=h;have OU:=hlt.2.2.2.2.2 i hi;refine (hc (fun b=>Z b\/w.heap.size<=b) (fun b hb=>.inr hb) ((h7.row i hi).keep (.refl _ _) fun b _ hz=>.inl hz)).mono ?_;rintro e w1 ⟨rfl,hr1,hu⟩;refine ⟨rfl,?_,hu⟩;refine ⟨fun b=>Z b\/(w.heap.size<=b/\b<w1.heap.size),cap,fun b hz=>by have:=hu.size;rcases hz with hz | hz;have:=h1 b hz;omega;omega,?_,h3,?_,?_,?_,?_,fun j hj=>?_,by rw [List.length_set];exact h9,by rw [List.length_set];exact h10.1,fun x hx=>h10.2 x (by
  have:=hu.size
  rcases hx with (hz | hz) | hz
  ·exact .inl hz
  ·exact .inr hz.1
  ·exact .inr (by omega))⟩
 ·rw [List.length_set];exact hu.keep.has h2 (fun e=>by rcases e with e | e;exact (Na i hi).1 e.symm;exact (Na i hi).2 e.symm)
 ·have he:ptrs (Rs.set i ⟨(Rs.getD i r0).g,(Rs.getD i r0).gc,L,b⟩)=ptrs Rs:=by
   unfold ptrs;rw [List.map_set]
   apply List.ext_getElem?
   intro j
   by_cases e:j=i
   ·subst e;rw [List.getElem?_set_self (by rw [List.length_map];exact hi)]
    simp [List.getD,List.getElem?_eq_getElem hi]
   ·rw [List.getElem?_set_ne (Ne.symm e)]
  rw [he,List.length_set];exact cS (hu.keep.own h4.ptrs fun b hb e=>by
   have:gr=b:=by simpa [Value.ownBlock] using hb
   subst this
   rcases e with e | e
   ·exact (hap.2 i hi).1 e.symm
   ·exact (hap.2 i hi).2 e.symm)
 ·rintro (hz | hz)
  ·exact h5 hz
  ·have:=hlt.2.1;omega
 ·rintro (hz | hz)
  ·exact h6 hz
  ·have:=hlt.2.2.2.1;omega
 ·have hz1:RowAt (fun b=>Z b\/(w.heap.size<=b/\b<w1.heap.size)) w1 B (Rs.getD i r0).g (Rs.getD i r0).gc L b:=hr1.keep (.refl _ _) fun b hb hz=>by rcases hz with hz | hz;exact .inl hz;exact .inr ⟨hz,hb⟩
  refine h7.put hi hz1 ⟨fun hz=>by rcases hz with hz | hz;exact (h7.out i hi).1 hz;omega,fun hz=>by rcases hz with hz | hz;exact (h7.out i hi).2 hz;omega⟩ (fun j hj hne=>((h7.row j hj).upd hu (fun b hz e=>by rcases e with e | e;exact (h7.out i hi).1 (e ▸ hz);exact (h7.out i hi).2 (e ▸ hz)) (fun e=>by rcases e with e | e;exact (h7.apart j i hj hi hne).1 e;exact h7.cross j i hj hi e) (fun e=>by rcases e with e | e;exact h7.cross i j hi hj e.symm;exact (h7.apart j i hj hi hne).2 e)).keep (.refl _ _) fun b _ hz=>.inl hz) (fun j hj hne=>?_) (fun j hj hne=>h7.apart i j hi hj (Ne.symm hne)) h7.apart;have hrj:=hlt.2.2.2.2.2 j hj;exact ⟨fun hz=>by rcases hz with hz | hz;exact (h7.out j hj).1 hz;omega,fun hz=>by rcases hz with hz | hz;exact (h7.out j hj).2 hz;omega⟩
 ·rw [List.length_set] at hj;rw [cy _ _ _ _ _ hi]
  by_cases e:j=i
  ·rw [if_pos e];exact hl
  ·rw [if_neg e];exact h8 j hj
end
end
def Even(Ls:List Ln)(wd:Nat):Prop:=0<Ls.length/\Ls.length<=1000/\0<wd/\wd<=1024/\∀ i,i<Ls.length->(Ls.getD i zl).1.length=wd
theorem Even.short{Ls:List Ln}{wd:Nat}(h:Even Ls wd):∀ i,i<Ls.length->(Ls.getD i zl).1.length<=1024:=fun i hi=>by have:=h.2.2.2.2 i hi;have:=h.2.2.2.1;omega
theorem Even.set{Ls:List Ln}{wd:Nat}(h:Even Ls wd)(i:Nat){x:Ln}(hx:x.1.length=wd):Even (Ls.set i x) wd:=by
 refine ⟨by rw [List.length_set];exact h.1,by rw [List.length_set];exact h.2.1,h.2.2.1,h.2.2.2.1,fun j hj=>?_⟩;rw [List.length_set] at hj
 by_cases e:j=i
 ·subst e;rw [cy _ _ _ _ _ hj,if_pos rfl];exact hx
 ·rw [show (Ls.set i x).getD j zl=Ls.getD j zl from by simp [List.getD,List.getElem?_set_ne (Ne.symm e)]];exact h.2.2.2.2 j hj
theorem zg{Ls:List Ln}{wd f t q:Nat}{up:Bool}(h:Even Ls wd)(hf:f<t)(ht:t<=Ls.length)(i:Nat)(hi:i<Ls.length):(gO Ls f t q up i).1.length=wd:=by
 have h5:=h.2.2.2.2;have hz:(List.replicate (Ls.getD i zl).1.length zc).length=wd:=by rw [List.length_replicate];exact h5 i hi
 unfold gO
 repeat' split
 all_goals first
  | exact h5 _ (by omega)
  |(simp only [List.length_replicate];exact h5 _ (by omega))
theorem Even.mvd{Ls:List Ln}{wd:Nat}(h:Even Ls wd)(a b k:Int)(up:Bool):Even (mvd Ls a b k up) wd:=by
 refine ⟨by rw [jx];exact h.1,by rw [jx];exact h.2.1,h.2.2.1,h.2.2.2.1,fun j hj=>?_⟩;rw [jx] at hj;unfold Go.Proofs.YtoeggiplcaegoaaGreatDoor.mvd
 split
 ·exact h.2.2.2.2 j hj
 ·rename_i hk
  have hh:=fm Ls.length b;unfold gM;rw [show ((List.range Ls.length).map (cL Ls (bD Ls.length a) (bD Ls.length b) (cB Ls.length a b k).toNat up)).getD j zl=cL Ls (bD Ls.length a) (bD Ls.length b) (cB Ls.length a b k).toNat up j from by simp [List.getD,hj]];exact zg h (by unfold cB at hk;omega) hh j hj
def dD(Ls:List Ln)(r:Nat):List Ln:=if r+1<Ls.length then Ls else mvd Ls 0 Ls.length 1 true
def aW(Ls:List Ln)(r:Nat):Nat:=if r+1<Ls.length then r+1 else r
def eO(Ls:List Ln)(r:Nat):List Ln:=Ls.set r ((Ls.getD r zl).1,true)
def goL(Ls:List Ln)(r:Nat):List Ln:=dD (eO Ls r) r
def cK(Ls:List Ln)(r c:Nat)(p:List Cl):List Ln:=Ls.set r (aN (Ls.getD r zl).1 p c,(Ls.getD r zl).2 && !a8 (Ls.getD r zl).1 p c)
theorem eD(Ls:List Ln)(r:Nat):(eO Ls r).length=Ls.length:=by unfold eO;rw [List.length_set]
theorem cY(Ls:List Ln)(r c:Nat)(p:List Cl):(cK Ls r c p).length=Ls.length:=by unfold cK;rw [List.length_set]
theorem fW(Ls:List Ln)(r:Nat):(dD Ls r).length=Ls.length:=by unfold dD;split;rfl;rw [jx]
theorem iR(Ls:List Ln)(r:Nat):(goL Ls r).length=Ls.length:=by unfold goL;rw [fW,eD]
theorem sD{Ls:List Ln}{r:Nat}(h:r<Ls.length):aW Ls r<Ls.length:=by unfold aW;split <;> omega
theorem Even.down{Ls:List Ln}{wd:Nat}(h:Even Ls wd)(r:Nat):Even (dD Ls r) wd:=by unfold dD;split;exact h;exact h.mvd _ _ _ _
theorem Even.mark{Ls:List Ln}{wd:Nat}(h:Even Ls wd){r:Nat}(hr:r<Ls.length):Even (eO Ls r) wd:=h.set r (h.2.2.2.2 r hr)
theorem Even.go{Ls:List Ln}{wd:Nat}(h:Even Ls wd){r:Nat}(hr:r<Ls.length):Even (goL Ls r) wd:=(h.mark hr).down r
theorem Even.pnt{Ls:List Ln}{wd:Nat}(h:Even Ls wd){r:Nat}(hr:r<Ls.length)(c:Nat)(p:List Cl):Even (cK Ls r c p) wd:=h.set r (by show (aN _ _ _).length=wd;rw [bR];exact h.2.2.2.2 r hr)
def cx(wd:Nat)(n:Int):Int:=if (wd:Int)<max 1 (min n 2) then 1 else max 1 (min n 2)
def iB(wd:Nat)(n:Int)(xs:List Int):List Int:=if (wd:Int)<max 1 (min n 2) then [65533] else xs
def p1L(Ls:List Ln)(r:Nat)(pd:Bool):List Ln:=if pd then goL Ls r else Ls
def p1R(Ls:List Ln)(r:Nat)(pd:Bool):Nat:=if pd then aW Ls r else r
def p1C(c:Nat)(pd:Bool):Nat:=if pd then 0 else c
def p2L(wd:Nat)(k:Int)(Ls:List Ln)(r c:Nat)(au:Bool):List Ln:=if k=2/\c+1=wd then (if au then goL (cK Ls r c [zc]) r else Ls) else Ls
def p2R(wd:Nat)(k:Int)(Ls:List Ln)(r c:Nat)(au:Bool):Nat:=if k=2/\c+1=wd then (if au then aW Ls r else r) else r
def p2C(wd:Nat)(k:Int)(c:Nat)(au:Bool):Nat:=if k=2/\c+1=wd then (if au then 0 else c - 1) else c
theorem er(wd:Nat)(n:Int):cx wd n=1\/cx wd n=2/\2<=wd:=by unfold cx;split <;> omega
theorem pY{Ls:List Ln}{r:Nat}(pd:Bool)(h:r<Ls.length):p1R Ls r pd<(p1L Ls r pd).length/\(p1L Ls r pd).length=Ls.length:=by
 unfold p1R p1L
 cases pd
 ·exact ⟨h,rfl⟩
 ·exact ⟨by rw [if_pos rfl,if_pos rfl,iR];exact sD h,by rw [if_pos rfl,iR]⟩
theorem pZ{wd:Nat}{k:Int}{Ls:List Ln}{r c:Nat}(au:Bool)(h:r<Ls.length):p2R wd k Ls r c au<(p2L wd k Ls r c au).length/\(p2L wd k Ls r c au).length=Ls.length:=by
 unfold p2R p2L
 split
 ·cases au
  ·exact ⟨h,rfl⟩
  ·exact ⟨by rw [if_pos rfl,if_pos rfl,iR,cY];exact sD h,by rw [if_pos rfl,iR,cY]⟩
 ·exact ⟨h,rfl⟩
theorem sE{Ls:List Ln}{wd r:Nat}(h:Even Ls wd)(pd:Bool)(hr:r<Ls.length):Even (p1L Ls r pd) wd:=by
 unfold p1L;cases pd;exact h;exact h.go hr
theorem sF{Ls:List Ln}{wd r c:Nat}{k:Int}(h:Even Ls wd)(au:Bool)(hr:r<Ls.length):Even (p2L wd k Ls r c au) wd:=by
 unfold p2L
 split
 ·cases au
  ·exact h
  ·exact (h.pnt hr c [zc]).go (by rw [cY];exact hr)
 ·exact h
theorem oO{wd:Nat}{k:Int}{c:Nat}(au:Bool)(hk:k=1\/k=2/\2<=wd)(hc:c<wd):(p2C wd k c au:Int)+k<=wd/\p2C wd k c au<wd:=by
 unfold p2C
 split
 ·cases au
  ·rw [if_neg (by decide)];omega
  ·rw [if_pos rfl];omega
 ·omega
def fL(Ls:List Ln)(wd r c:Nat)(pd au:Bool)(n:Int)(xs:List Int):List Ln :=
 cK (p2L wd (cx wd n) (p1L Ls r pd) (p1R Ls r pd) (p1C c pd) au) (p2R wd (cx wd n) (p1L Ls r pd) (p1R Ls r pd) (p1C c pd) au) (p2C wd (cx wd n) (p1C c pd) au) (ofC (cx wd n) (iB wd n xs))
def fx(Ls:List Ln)(wd r c:Nat)(pd au:Bool)(n:Int):Nat:=p2R wd (cx wd n) (p1L Ls r pd) (p1R Ls r pd) (p1C c pd) au
def dE(wd c:Nat)(pd au:Bool)(n:Int):Nat:=p2C wd (cx wd n) (p1C c pd) au
theorem xd{Ls:List Ln}{wd r c:Nat}(h:Even Ls wd)(pd au:Bool)(n:Int)(xs:List Int)(hr:r<Ls.length):Even (fL Ls wd r c pd au n xs) wd:=by
 have h1:=pY pd hr;have h2:=pZ (wd:=wd) (k:=cx wd n) (c:=p1C c pd) au h1.1;exact (sF (sE h pd hr) au h1.1).pnt h2.1 _ _
theorem rK{Ls:List Ln}{wd r c:Nat}(pd au:Bool)(n:Int)(xs:List Int)(hr:r<Ls.length)(hc:c<wd):fx Ls wd r c pd au n<Ls.length/\dE wd c pd au n<wd/\(dE wd c pd au n:Int)+cx wd n<=wd/\(fL Ls wd r c pd au n xs).length=Ls.length:=by
 have h1:=pY pd hr;have h2:=pZ (wd:=wd) (k:=cx wd n) (c:=p1C c pd) au h1.1;have h3:=oO (c:=p1C c pd) au (er wd n) (by unfold p1C;split <;> omega);refine ⟨by unfold fx;omega,h3.2,h3.1,?_⟩;unfold fL;rw [cY];omega
def ctL(Ls:List Ln)(r2:Nat)(k:Int):List Ln:=if k=10 then dD Ls r2 else Ls
def ctR(Ls:List Ln)(r:Int)(r2:Nat)(k:Int):Int:=if k=13\/k=8 then r2 else if k=10 then (aW Ls r2:Nat) else r
def ctC(c:Int)(c2:Nat)(k:Int):Int:=if k=13 then 0 else if k=10 then c2 else if k=8 then ((c2 - 1:Nat):Int) else c
def ctP(pd:Bool)(k:Int):Bool:=if k=13\/k=10\/k=8 then false else pd
theorem zS(Ls:List Ln)(r c:Int)(r2 c2:Nat)(pd:Bool):ctL Ls r2 13=Ls/\ctR Ls r r2 13=r2/\ctC c c2 13=0/\ctP pd 13=false:=⟨rfl,rfl,rfl,rfl⟩
theorem zT(Ls:List Ln)(r c:Int)(r2 c2:Nat)(pd:Bool):ctL Ls r2 10=dD Ls r2/\ctR Ls r r2 10=(aW Ls r2:Nat)/\ctC c c2 10=c2/\ctP pd 10=false:=⟨rfl,rfl,rfl,rfl⟩
theorem AF(Ls:List Ln)(r c:Int)(r2 c2:Nat)(pd:Bool):ctL Ls r2 8=Ls/\ctR Ls r r2 8=r2/\ctC c c2 8=((c2 - 1:Nat):Int)/\ctP pd 8=false:=⟨rfl,rfl,rfl,rfl⟩
theorem yi(Ls:List Ln)(r c:Int)(r2 c2:Nat)(pd:Bool)(k:Int)(h:k≠13/\k≠10/\k≠8):ctL Ls r2 k=Ls/\ctR Ls r r2 k=r/\ctC c c2 k=c/\ctP pd k=pd:=by
 unfold ctL ctR ctC ctP
 simp [h.1,h.2.1,h.2.2]
theorem Ah(Ls:List Ln)(r2:Nat)(k:Int):(ctL Ls r2 k).length=Ls.length:=by unfold ctL;split;exact fW _ _;rfl
section
variable {Yo : an}
theorem lR(w:World)(a0 a1 a2 b0 b1 b2:Value):∃ W,W=(w.alloc (.cells #[a0,a1,a2] 24)).alloc (.cells #[b0,b1,b2] 24) /\
  Has W w.heap.size [a0,a1,a2] 24/\Has W (w.heap.size+1) [b0,b1,b2] 24/\Below w.heap.size w W:=by
 refine ⟨_,rfl,(Has.new w _ _).alloc _,?_,(AU _ _).alloc (by simp) _⟩;have:=Has.new (w.alloc (.cells #[a0,a1,a2] 24)) [b0,b1,b2] 24
 simpa using this
theorem pX(r c:Int)(p:Bool)(w:World):Calls Tryz.prog 185 #[.agg #[.int .i64 r,.int .i64 c,.bool p]] w (Gives w (.agg #[.int .i64 r,.int .i64 0,.bool false])):=by
 go_enter Tryz.func185,Tryz.ntmps185
 go_wp2_with fail
 obtain ⟨W,hW,hb,hr,hl⟩:=lR w (Value.int .i64 r) (.int .i64 c) (.bool p) (Value.int .i64 r) (.int .i64 0) (.bool false);rw [<-hW];have k0:=hr.cell 0 _ rfl;have k1:=hr.cell 1 _ rfl;have k2:=hr.cell 2 _ rfl;exact bodyPost_ret (v:=.agg #[.int .i64 r,.int .i64 0,.bool false]) (by simp [results,Tryz.results185,go_sem,k0,k1,k2]) rfl ⟨rfl,hl⟩
theorem xb{w W:World}{g:Nat}{a b c x y z:Value}(h:Has W g [a,b,c] 24)(k:Has W (g+1) [x,y,z] 24)(hb:Below w.heap.size w W)(hg:w.heap.size<=g)(i:Nat)(v:Value):∃ W',W'=W.setCell ⟨g,i,none⟩ v/\Has W' g ([a,b,c].set i v) 24/\Has W' (g+1) [x,y,z] 24/\Below w.heap.size w W' :=
 ⟨_,rfl,h.set i v,k.setOther _ _ (by show g+1≠g;omega),hb.trans (((Upd.refl (fun b=>w.heap.size<=b) W).setCell (p:=⟨g,i,none⟩) (.inl hg) v).below hb.size fun _ e=>e)⟩
theorem m6(r:Int)(c:Nat)(p:Bool)(w:World)(hc:c<=2000):Calls Tryz.prog 187 #[.agg #[.int .i64 r,.int .i64 ((c:Int)+1),.bool p]] w (Gives w (.agg #[.int .i64 r,.int .i64 (c:Int),.bool false])):=by
 have hd:decide ((0:Int)<(c:Int)+1)=true:=ah (by omega);obtain ⟨d,Ff⟩ : ∃ d:Int,d=(c:Int)+1:=⟨_,rfl⟩;have hw:IntKind.i64.wrap (d - 1)=(c:Int):=by rw [Ff,IntKind.wrap_i64];omega
 rw [<-Ff] at hd ⊢;clear Ff
 go_enter Tryz.func187,Tryz.ntmps187
 go_wp2_with fail
 obtain ⟨W,hW,hb,hr,hl⟩:=lR w (Value.int .i64 r) (.int .i64 (c:Int)) (.bool false) (Value.int .i64 r) (.int .i64 (c:Int)) (.bool false);rw [<-hW];have k0:=hr.cell 0 _ rfl;have k1:=hr.cell 1 _ rfl;have k2:=hr.cell 2 _ rfl;exact bodyPost_ret (v:=.agg #[.int .i64 r,.int .i64 (c:Int),.bool false]) (by simp [results,Tryz.results187,go_sem,k0,k1,k2]) rfl ⟨rfl,hl⟩
theorem ur(r c:Int)(p:Bool)(n:Nat)(w:World)(h1:1<=n)(h2:n<=1024)(hr:(n:Int) - 1<=r):Calls Tryz.prog 235 #[.agg #[.int .i64 r,.int .i64 c,.bool p],.int .i64 n] w (Gives w (.tuple #[.agg #[.int .i64 r,.int .i64 c,.bool false],.bool true])):=by
 have MR:ay n=(n:Int):=by unfold ay;omega
 obtain ⟨s,hs⟩ : ∃ s:Int,s=(n:Int):=⟨_,rfl⟩;have EY:=ab (fun w=>show Calls Tryz.prog 180 #[.int .i64 n] w (fun e w'=>e=.returned (.int .i64 s)/\w=w') from by have h:=cz (n:Int) w;rw [MR] at h;rw [hs];exact h);have hd:decide (s - 1<=r)=true:=ah (by omega);have hw:IntKind.i64.wrap (s - 1)=s - 1:=by rw [IntKind.wrap_i64];omega
 clear MR hs
 go_enter Tryz.func235,Tryz.ntmps235
 go_wp2_with fail
 obtain ⟨W,hW,hb,hq,hl⟩:=lR w (Value.int .i64 r) (.int .i64 c) (.bool false) (Value.int .i64 0) (.int .i64 0) (.bool false);rw [<-hW];clear hW;have e0:=aj (hb.cell 0 _ rfl);have HB:=ab hb;have HQ:=ab hq;have HL:=ab hl;clear hb hq hl;refine aJ (by kernel_rfl) (by kernel_rfl) ?_
 repeat (go_big_quiet_step ((go_at_call 180;exact aG (EY.out _))))
 refine wpQuiet_nil ?_;intro _ hw';obtain ⟨u,hw''⟩:=hw';subst hw'';obtain ⟨W2,hW2⟩:=ae (ext W u);rw [<-hW2];have hb1:Has W2 w.heap.size [Value.int .i64 r,.int .i64 c,.bool false] 24:=by rw [hW2];exact HB.out.below u.ok HB.out.lt
 have hr1:Has W2 (w.heap.size+1) [Value.int .i64 0,.int .i64 0,.bool false] 24:=by rw [hW2];exact HQ.out.below u.ok HQ.out.lt
 have E0:Below w.heap.size w W2:=by rw [hW2];exact aU HL.out u
 clear hW2 HB HQ HL e0;have c0:=hb1.cell 0 _ rfl;have c1:=hb1.cell 1 _ rfl;have c2:=hb1.cell 2 _ rfl;have k0:=hr1.cell 0 _ rfl;have k1:=hr1.cell 1 _ rfl;have k2:=hr1.cell 2 _ rfl;have g0:=hr1.free 0;have g1:=hr1.free 1;have g2:=hr1.free 2;have hlt:=hr1.lt;have hbl:=fun x y z=>E0.trans ((fd W2 (w.heap.size+1) x y z).below (B':=w.heap.size) E0.size (by omega))
 have Ca:=ab hbl;clear hb1 hr1 E0 hbl;go_wp2;exact bodyPost_ret (v:=.tuple #[.agg #[.int .i64 r,.int .i64 c,.bool false],.bool true]) (by simp [results,Tryz.results235,go_sem,k0,k1,k2]) rfl ⟨rfl,Ca.out _ _ _⟩
theorem rJ(r c:Int)(p:Bool)(n:Nat)(w:World)(h1:1<=n)(h2:n<=1024)(hr:r<(n:Int) - 1)(h0:0<=r):Calls Tryz.prog 235 #[.agg #[.int .i64 r,.int .i64 c,.bool p],.int .i64 n] w (Gives w (.tuple #[.agg #[.int .i64 (r+1),.int .i64 c,.bool false],.bool false])):=by
 have MR:ay n=(n:Int):=by unfold ay;omega
 obtain ⟨s,hs⟩ : ∃ s:Int,s=(n:Int):=⟨_,rfl⟩;have EY:=ab (fun w=>show Calls Tryz.prog 180 #[.int .i64 n] w (fun e w'=>e=.returned (.int .i64 s)/\w=w') from by have h:=cz (n:Int) w;rw [MR] at h;rw [hs];exact h);have hd:decide (s - 1<=r)=false:=ai (by omega);have hw:IntKind.i64.wrap (s - 1)=s - 1:=by rw [IntKind.wrap_i64];omega
 obtain ⟨d,N5⟩ : ∃ d:Int,d=r+1:=⟨_,rfl⟩;have hwr:IntKind.i64.wrap (r+1)=d:=by rw [IntKind.wrap_i64];omega
 rw [<-N5];clear N5;clear MR hs
 go_enter Tryz.func235,Tryz.ntmps235
 go_wp2_with fail
 obtain ⟨W,hW,hb,hq,hl⟩:=lR w (Value.int .i64 r) (.int .i64 c) (.bool false) (Value.int .i64 0) (.int .i64 0) (.bool false);rw [<-hW];clear hW;have e0:=aj (hb.cell 0 _ rfl);have HB:=ab hb;have HQ:=ab hq;have HL:=ab hl;clear hb hq hl;refine aJ (by kernel_rfl) (by kernel_rfl) ?_
 repeat (go_big_quiet_step ((go_at_call 180;exact aG (EY.out _))))
 refine wpQuiet_nil ?_;intro _ hw';obtain ⟨u,hw''⟩:=hw';subst hw'';obtain ⟨W2,hW2⟩:=ae (ext W u);rw [<-hW2];have hb1:Has W2 w.heap.size [Value.int .i64 r,.int .i64 c,.bool false] 24:=by rw [hW2];exact HB.out.below u.ok HB.out.lt
 have hr1:Has W2 (w.heap.size+1) [Value.int .i64 0,.int .i64 0,.bool false] 24:=by rw [hW2];exact HQ.out.below u.ok HQ.out.lt
 have E0:Below w.heap.size w W2:=by rw [hW2];exact aU HL.out u
 clear hW2 HB HQ HL e0;have q0:=hb1.cell 0 _ rfl;have f0:=hb1.free 0
 go_upto_region 5 with (fail)
 obtain ⟨W3,hW3,hb3,hr3,Dz⟩:=xb hb1 hr1 E0 (Nat.le_refl _) 0 (.int .i64 d);rw [<-hW3];clear hW3 hb1 hr1 E0 q0 f0;have c0:=hb3.cell 0 _ rfl;have c1:=hb3.cell 1 _ rfl;have c2:=hb3.cell 2 _ rfl;have k0:=hr3.cell 0 _ rfl;have k1:=hr3.cell 1 _ rfl;have k2:=hr3.cell 2 _ rfl;have g0:=hr3.free 0;have g1:=hr3.free 1;have g2:=hr3.free 2;have hlt:=hr3.lt;have hbl:=fun x y z=>Dz.trans ((fd W3 (w.heap.size+1) x y z).below (B':=w.heap.size) Dz.size (by omega))
 have Ca:=ab hbl;clear hb3 hr3 Dz hbl;go_wp2;exact bodyPost_ret (v:=.tuple #[.agg #[.int .i64 d,.int .i64 c,.bool false],.bool false]) (by simp [results,Tryz.results235,go_sem,k0,k1,k2]) rfl ⟨rfl,Ca.out _ _ _⟩
theorem jw{w:World}{g:Nat}{p a b c d:Value}(h:Has w g [p,a,b,c,d] 42)(x y z:Value):Has (((w.setCell ⟨g,1,none⟩ x).setCell ⟨g,2,none⟩ y).setCell ⟨g,3,none⟩ z) g [p,x,y,z,d] 42/\Upd (fun b=>b=g) w (((w.setCell ⟨g,1,none⟩ x).setCell ⟨g,2,none⟩ y).setCell ⟨g,3,none⟩ z) :=
 ⟨((h.set 1 x).set 2 y).set 3 z,(((Upd.refl (fun b=>b=g) w).setCell (p:=⟨g,1,none⟩) (.inl rfl) x).setCell (p:=⟨g,2,none⟩) (.inl rfl) y).setCell (p:=⟨g,3,none⟩) (.inl rfl) z⟩
theorem PDoY.cur{w W:World}{B gp gg gr wd:Nat}{Rs:List Rw}{Ls:List Ln}{r c:Int}{pd au:Bool}(h:PenY Yo w B gp gg gr wd Rs Ls r c pd au)(hb:Below w.heap.size w W)(r' c':Int)(pd':Bool):PDoY Yo w B gp gg gr wd Rs Ls r' c' pd' au (((W.setCell ⟨gp,1,none⟩ (.int .i64 r')).setCell ⟨gp,2,none⟩ (.int .i64 c')).setCell ⟨gp,3,none⟩ (.bool pd')):=by
 have h1:=h.below hb;have h2:=jw h1.1 (.int .i64 r') (.int .i64 c') (.bool pd');exact PDoY.trans (.ofBelow hb) (RowsFrom.self _ _) (PDoY.turn h1 h2.1 h2.2)
theorem m7(B gp gg gr wd:Nat)(Rs:List Rw)(Ls:List Ln)(r c:Int)(pd au:Bool)(w:World)(h:PenY Yo w B gp gg gr wd Rs Ls r c pd au):Calls Tryz.prog 112 #[.pointer (some ⟨gp,0,none⟩)] w (fun e w'=>e=.returned (.bool true)/\PDoY Yo w B gp gg gr wd Rs Ls (inI r (ay Ls.length)) (inI c (ay wd)) (cI c pd wd) au w'):=by
 have hl:=h.lt;have DB:=h.sizes.2.2.2.2.1;have c0:=h.1.cell 0 _ rfl;have e0:=aj c0;have e1:=aj (h.1.cell 1 _ rfl);have e2:=aj (h.1.cell 2 _ rfl);have e3:=aj (h.1.cell 3 _ rfl);have f1:=aD (a:=⟨gp,1,none⟩) hl (h.1.free 1);have f2:=aD (a:=⟨gp,2,none⟩) hl (h.1.free 2);have f3:=aD (a:=⟨gp,3,none⟩) hl (h.1.free 3);have HG:=ab (show ∀ u:Growth w,GridY Yo (ext w u) B gg gr wd Rs from fun u=>h.2.2.1.below u.ok);have H:=ab h;rw [<-DB];clear h DB
 go_enter Tryz.func112,Tryz.ntmps112
 go_wp2_with fail
 refine aC 18 (by kernel_rfl) (by simp) (by kernel_rfl) (by kernel_rfl) (by kernel_rfl) (by kernel_rfl) (by kernel_rfl) ?_;simp only [List.take_succ_cons,List.take_zero,List.drop_succ_cons,List.drop_zero]
 repeat (go_big_quiet_step ((first | (go_at_call 106;exact aG (eZ B gg gr wd Rs _ (HG.out _))) | (go_at_call 95;exact aG (di B gg gr wd Rs _ (HG.out _))) | (go_at_call 108;exact ei (ns r c pd wd Rs.length _)))))
 refine wpQuiet_nil ?_;intro _ hw';obtain ⟨u,hw''⟩:=hw';subst hw'';have HF:=ab (PDoY.cur H.out u.ok (inI r (ay Rs.length)) (inI c (ay wd)) (cI c pd wd));go_wp2;go_ret;exact ⟨af,HF.out⟩
theorem ke{Ls:List Ln}{r:Nat}(h:r+1<Ls.length):dD Ls r=Ls/\aW Ls r=r+1:=⟨if_pos h,if_pos h⟩
theorem lS{Ls:List Ln}{r:Nat}(h:¬ r+1<Ls.length):dD Ls r=mvd Ls 0 Ls.length 1 true/\aW Ls r=r:=⟨if_neg h,if_neg h⟩
theorem m8(B gp gg gr wd:Nat)(Rs:List Rw)(Ls:List Ln)(r:Nat)(c:Int)(pd au:Bool)(w:World)(h:PenY Yo w B gp gg gr wd Rs Ls r c pd au)(hr:r<Ls.length):Calls Tryz.prog 186 #[.pointer (some ⟨gp,0,none⟩)] w (fun e w'=>e=.returned (.tuple #[])/\PDoY Yo w B gp gg gr wd Rs (dD Ls r) (aW Ls r:Nat) c false au w'):=by
 have hl:=h.lt;have hsz:=h.sizes;have DB:=h.sizes.2.2.2.2.1;have H:=ab h;have ID:=ab DB
 by_cases hm:r+1<Ls.length
 ·have HD:=ab (fun w=>rJ (r:Int) c pd Rs.length w (by omega) (by omega) (by omega) (by omega));rw [(ke hm).1,(ke hm).2];obtain ⟨d,N5⟩ : ∃ d:Int,d=(r:Int)+1:=⟨_,rfl⟩;rw [show ((r+1:Nat):Int)=d from by omega];rw [<-N5] at HD;clear h DB hm hsz hr N5
  go_enter Tryz.func186,Tryz.ntmps186
  obtain ⟨AZ,A6⟩ : ∃ CC:Array Bool->Value->World->Prop,CC=fun L8 x w'=>Below w.heap.size w w'/\(Mix.one L8 13=1->∃ g,x=.pointer (some ⟨g,0,none⟩)/\w.heap.size<=g/\(Mix.one L8 14=0->Has w' g [.int .i64 0,.int .i64 0,.bool false] 24)/\(Mix.one L8 14=1->Has w' g [.int .i64 d,.int .i64 c,.bool false] 24)):=⟨_,rfl⟩
  obtain ⟨BA,Bh,Bm,Bl⟩:=Reg.xT;obtain ⟨Bw,Bn,A2,A3,A4,A5,Bc,A9,Ba,A1,A7,Be,A0,Bg,Bk,Bj,Bq,Bo⟩:=Reg.e16 BA
   (fun xx _=>xx=.pointer (some ⟨gp,0,none⟩))
   (fun xx _=>xx=.pointer (some ⟨gp,0,none⟩))
   (fun xx _=>xx=.pointer (some ⟨gp,1,none⟩))
   (fun xx _=>xx=.agg #[.int .i64 r,.int .i64 c,.bool pd])
   (fun xx _=>xx=.pointer (some ⟨gp,0,none⟩))
   (fun xx _=>xx=.pointer (some ⟨gp,0,none⟩))
   (fun xx _=>xx=.pointer (some ⟨gp,0,none⟩))
   (fun xx _=>xx=.pointer (some ⟨gg,0,none⟩))
   (fun xx _=>xx=.int .i64 Rs.length)
   (fun xx _=>xx=.tuple #[.agg #[.int .i64 d,.int .i64 c,.bool false],.bool false])
   (fun xx _=>xx=.tuple #[.agg #[.int .i64 d,.int .i64 c,.bool false],.bool false])
   (fun xx _=>xx=.agg #[.int .i64 d,.int .i64 c,.bool false])
   (fun xx _=>xx=.bool false)
   (fun x w'=>True)
   (fun xx _=>xx=undef)
   (fun xx _=>xx=.bool false)
   (s13:=fun x w w1 hx h=>by rw [Bh] at hx;exact h)
  have Bd:Hid (∀ i L {x:Value} w,(i == 13 || i == 14)=false ->  AZ L x w->AZ (L.setIfInBounds i true) x w):=ab (by
   intro i L x w q h;simp only [Bool.or_eq_false_iff,beq_eq_false_iff_ne] at q;rw [A6] at h ⊢;simp only [Mix.one_ne q.1,Mix.one_ne q.2];exact h)
  have Bv:Hid (∀ L {x:Value} w w1,AZ L x w->Below w.heap.size w w1->AZ L x w1):=ab (by
   intro L x w w1 h hb;rw [A6] at h ⊢
   (obtain ⟨q1,q2⟩:=h;exact ⟨q1.trans (hb.mono q1.size),fun e=>by obtain ⟨g,e1,e2,e3,e4⟩:=q2 e;exact ⟨g,e1,e2,fun f=>(e3 f).below hb (e3 f).lt,fun f=>(e4 f).below hb (e4 f).lt⟩⟩))
  have By:=ab (show ∀ x,AZ (Array.replicate 16 false) x w.drew from fun x=>by rw [A6];exact ⟨(Below.refl _ _).drew,fun e=>absurd e (by decide)⟩);have AX:=ab (fun (i:Nat) L {x:Value} w v q (h:AZ L x w) (e:Bw i v w)=>Reg.hk (Bd.out i L w q h) e (Bm.out w));have AW:=ab A6;have Bi:=ab Bh;clear A6 Bh
  go_wp2_with fail
  refine RegC.regionF 13 Bw AZ BA Bn.out (by kernel_rfl) (by kernel_rfl) (by kernel_rfl) By.out (fun GC AV=>?_);simp only [Reg.frame,Reg.dsts,List.map_cons,List.map_nil,Mix.put_lit,Reg.put_none,List.set_cons_succ,List.set_cons_zero,Nat.zero_add,Nat.reduceAdd] at AV;refine ⟨⟨?_,?_,?_,?_,?_,?_,?_,?_,?_,?_,?_,?_,?_,?_,?_,?_,trivial⟩,?_⟩
  ·intro Lq wq xq hh;simp only [AV];refine Reg.go rfl ?_;have HK:=AX.out 0 _ _ _ rfl hh.cls ((A2.out _ _).mpr rfl);go_simp;exact HK.out
  ·intro Lq wq xq hh;simp only [AV,(A2.out _ _).mp (hh.v 0)];refine Reg.go rfl ?_;have HK:=AX.out 1 _ _ _ rfl hh.cls ((A3.out _ _).mpr rfl);go_simp;exact HK.out
  ·intro Lq wq xq hh;simp only [AV,(A3.out _ _).mp (hh.v 1)];refine Reg.go rfl ?_;have HK:=AX.out 2 _ _ _ rfl hh.cls ((A4.out _ _).mpr rfl);go_simp;exact HK.out
  ·intro Lq wq xq hh;simp only [AV,(A4.out _ _).mp (hh.v 2)];refine Reg.go rfl ?_;have hc:AZ Lq (xq 13) wq:=hh.cls;rw [AW.out] at hc;have hp:=H.out.below hc.1;have q1:=hp.1.cell 1 _ rfl;have q2:=hp.1.cell 2 _ rfl;have q3:=hp.1.cell 3 _ rfl;clear hc;have HK:=AX.out 3 _ _ _ rfl hh.cls ((A5.out _ _).mpr rfl);go_simp;exact HK.out
  ·intro Lq wq xq hh;simp only [AV];refine Reg.go rfl ?_;have HK:=AX.out 4 _ _ _ rfl hh.cls ((Bc.out _ _).mpr rfl);go_simp;exact HK.out
  ·intro Lq wq xq hh;simp only [AV,(Bc.out _ _).mp (hh.v 4)];refine Reg.go rfl ?_;have HK:=AX.out 5 _ _ _ rfl hh.cls ((A9.out _ _).mpr rfl);go_simp;exact HK.out
  ·intro Lq wq xq hh;simp only [AV,(A9.out _ _).mp (hh.v 5)];refine Reg.go rfl ?_;have HK:=AX.out 6 _ _ _ rfl hh.cls ((Ba.out _ _).mpr rfl);go_simp;exact HK.out
  ·intro Lq wq xq hh;simp only [AV,(Ba.out _ _).mp (hh.v 6)];refine Reg.go rfl ?_;have hc:AZ Lq (xq 13) wq:=hh.cls;rw [AW.out] at hc;have hp:=H.out.below hc.1;have q0:=hp.1.cell 0 _ rfl;clear hc;have HK:=AX.out 7 _ _ _ rfl hh.cls ((A1.out _ _).mpr rfl);go_simp;exact HK.out
  ·intro Lq wq xq hh;simp only [AV,(A1.out _ _).mp (hh.v 7)];refine Reg.go rfl ?_;unfold Reg.upon;have hc:AZ Lq (xq 13) wq:=hh.cls;rw [AW.out] at hc;go_simp;refine (di B gg gr wd Rs wq (H.out.below hc.1).2.2.1).mono ?_;rintro e w2 ⟨rfl,rfl⟩;exact ⟨_,rfl,Bd.out 8 Lq wq rfl  hh.cls,(by rw [A7.out];try rfl),Bm.out _⟩
  ·intro Lq wq xq hh;simp only [AV,(A5.out _ _).mp (hh.v 3),(A7.out _ _).mp (hh.v 8)];refine Reg.go rfl ?_;unfold Reg.upon;have hc:AZ Lq (xq 13) wq:=hh.cls;rw [AW.out] at hc;go_simp;refine (HD.out wq).mono ?_;rintro e w2 ⟨rfl,hb⟩;exact ⟨_,rfl,Bd.out 9 Lq w2 rfl  (Bv.out Lq wq w2 hh.cls hb),(by rw [Be.out];try rfl),Bl.out wq w2 hb⟩
  ·intro Lq wq xq hh;simp only [AV,(Be.out _ _).mp (hh.v 9)];refine Reg.go rfl ?_;have HK:=AX.out 10 _ _ _ rfl hh.cls ((A0.out _ _).mpr rfl);go_simp;exact HK.out
  ·intro Lq wq xq hh;simp only [AV,(A0.out _ _).mp (hh.v 10)];refine Reg.go rfl ?_;have HK:=AX.out 11 _ _ _ rfl hh.cls ((Bg.out _ _).mpr rfl);go_simp;exact HK.out
  ·intro Lq wq xq hh;simp only [AV,(A0.out _ _).mp (hh.v 10)];refine Reg.go rfl ?_;have HK:=AX.out 12 _ _ _ rfl hh.cls ((Bk.out _ _).mpr rfl);go_simp;exact HK.out
  ·intro Lq wq xq hh;simp only [AV];refine Reg.go rfl ?_;unfold Reg.upon;have hc:AZ Lq (xq 13) wq:=hh.cls;rw [AW.out] at hc;have hn:=Has.new wq [.int .i64 0,.int .i64 0,.bool false] 24;have hb:=AU wq (.cells [Value.int .i64 0,.int .i64 0,.bool false].toArray 24);have hF:AZ (Lq.setIfInBounds 13 true) (.pointer (some ⟨wq.heap.size,0,none⟩)) (wq.alloc (.cells [Value.int .i64 0,.int .i64 0,.bool false].toArray 24)):=by
    rw [AW.out];refine ⟨hc.1.trans (hb.mono hc.1.size),fun _=>⟨_,rfl,hc.1.size,fun _=>hn,fun e=>?_⟩⟩;rw [Mix.one_ne (by decide),Mix.one_un (hh.notYet 14 (by kernel_rfl))] at e;exact absurd e (by decide)
   have hE:Bw 13 (.pointer (some ⟨wq.heap.size,0,none⟩)) (wq.alloc (.cells [Value.int .i64 0,.int .i64 0,.bool false].toArray 24)):=by rw [Bj.out];trivial
   have hX:BA wq (wq.alloc (.cells [Value.int .i64 0,.int .i64 0,.bool false].toArray 24)):=by rw [Bi.out];trivial
   go_simp;exact ⟨hF,hE,hX⟩
  ·intro Lq wq xq hh;have d13:=(Bj.out _ _).mp (hh.v 13);simp only [AV,(Bg.out _ _).mp (hh.v 11)];refine Reg.go rfl ?_;unfold Reg.upon;have hc:AZ Lq (xq 13) wq:=hh.cls;rw [AW.out] at hc;obtain ⟨g,e1,e2,e3,e4⟩:=hc.2 (hh.isDone 13 (by kernel_rfl));have hz:=e3 hh.un;have q0:=hz.cell 0 _ rfl;have q1:=hz.cell 1 _ rfl;have q2:=hz.cell 2 _ rfl;have g0:=hz.free 0;have g1:=hz.free 1;have g2:=hz.free 2;have hF:AZ (Lq.setIfInBounds 14 true) (xq 13) (((wq.setCell ⟨g,0,none⟩ (.int .i64 d)).setCell ⟨g,1,none⟩ (.int .i64 c)).setCell ⟨g,2,none⟩ (.bool false)):=by
    rw [AW.out];refine ⟨hc.1.trans ((((Upd.refl (fun b=>w.heap.size<=b) wq).setCell (p:=⟨g,0,none⟩) (.inl e2) _).setCell (p:=⟨g,1,none⟩) (.inl e2) _).setCell (p:=⟨g,2,none⟩) (.inl e2) _ |>.below hc.1.size fun _ e=>e),fun _=>⟨g,e1,e2,fun e=>?_,fun _=>((hz.set 0 _).set 1 _).set 2 _⟩⟩;rw [Mix.one_set (by rw [hh.size];decide)] at e;exact absurd e (by decide)
   have hE:Bw 14 undef (((wq.setCell ⟨g,0,none⟩ (.int .i64 d)).setCell ⟨g,1,none⟩ (.int .i64 c)).setCell ⟨g,2,none⟩ (.bool false)):=by rw [Bq.out]
   have hX:BA wq (((wq.setCell ⟨g,0,none⟩ (.int .i64 d)).setCell ⟨g,1,none⟩ (.int .i64 c)).setCell ⟨g,2,none⟩ (.bool false)):=by rw [Bi.out];trivial
   rw [e1];clear hc e3 e4;go_simp;exact ⟨hF,hE,hX⟩
  ·intro Lq wq xq hh;simp only [AV,(Bk.out _ _).mp (hh.v 12)];refine Reg.go rfl ?_;have HK:=AX.out 15 _ _ _ rfl hh.cls ((Bo.out _ _).mpr rfl);go_simp;exact HK.out
  intro xq DY Bp BD;rw [AW.out] at Bp;simp only [AV];have vrg13:=(Bj.out _ _).mp (BD 13 (by decide));have vrg15:=(Bo.out _ _).mp (BD 15 (by decide));rw [vrg15];clear BD AV AX Bd Bm Bn By AW Bi Bv Bl A2 A3 A4 A5 Bc A9 Ba A1 A7 Be A0 Bg Bk Bj Bq Bo;obtain ⟨hb,EW⟩:=Bp;obtain ⟨g,e1,hg,_,OG⟩:=EW (by kernel_rfl);have h4:=OG (by kernel_rfl);have hp:=H.out.below hb;have HB:=ab hb;rw [e1];clear vrg13 vrg15 e1 EW OG;have q0:=h4.cell 0 _ rfl;have q1:=h4.cell 1 _ rfl;have q2:=h4.cell 2 _ rfl;have p1:=hp.1.cell 1 _ rfl;have p2:=hp.1.cell 2 _ rfl;have p3:=hp.1.cell 3 _ rfl;have f1:=hp.1.free 1;have f2:=hp.1.free 2;have f3:=hp.1.free 3;have HF:=ab (PDoY.cur H.out HB.out d c false);clear hb hp h4;go_wp2;exact bodyPost_end (by kernel_rfl) rfl ⟨rfl,HF.out⟩
 ·have HD:=ab (fun w=>ur (r:Int) c pd Rs.length w (by omega) (by omega) (by omega));rw [(lS hm).1,(lS hm).2];clear h DB hm hsz hr
  go_enter Tryz.func186,Tryz.ntmps186
  obtain ⟨AZ,A6⟩ : ∃ CC:Array Bool->Value->World->Prop,CC=fun L8 x w'=>Below w.heap.size w w'/\(Mix.one L8 13=1->∃ g,x=.pointer (some ⟨g,0,none⟩)/\w.heap.size<=g/\(Mix.one L8 14=0->Has w' g [.int .i64 0,.int .i64 0,.bool false] 24)/\(Mix.one L8 14=1->Has w' g [.int .i64 r,.int .i64 c,.bool false] 24)):=⟨_,rfl⟩
  obtain ⟨BA,Bh,Bm,Bl⟩:=Reg.xT;obtain ⟨Bw,Bn,A2,A3,A4,A5,Bc,A9,Ba,A1,A7,Be,A0,Bg,Bk,Bj,Bq,Bo⟩:=Reg.e16 BA
   (fun xx _=>xx=.pointer (some ⟨gp,0,none⟩))
   (fun xx _=>xx=.pointer (some ⟨gp,0,none⟩))
   (fun xx _=>xx=.pointer (some ⟨gp,1,none⟩))
   (fun xx _=>xx=.agg #[.int .i64 r,.int .i64 c,.bool pd])
   (fun xx _=>xx=.pointer (some ⟨gp,0,none⟩))
   (fun xx _=>xx=.pointer (some ⟨gp,0,none⟩))
   (fun xx _=>xx=.pointer (some ⟨gp,0,none⟩))
   (fun xx _=>xx=.pointer (some ⟨gg,0,none⟩))
   (fun xx _=>xx=.int .i64 Rs.length)
   (fun xx _=>xx=.tuple #[.agg #[.int .i64 r,.int .i64 c,.bool false],.bool true])
   (fun xx _=>xx=.tuple #[.agg #[.int .i64 r,.int .i64 c,.bool false],.bool true])
   (fun xx _=>xx=.agg #[.int .i64 r,.int .i64 c,.bool false])
   (fun xx _=>xx=.bool true)
   (fun x w'=>True)
   (fun xx _=>xx=undef)
   (fun xx _=>xx=.bool true)
   (s13:=fun x w w1 hx h=>by rw [Bh] at hx;exact h)
  have Bd:Hid (∀ i L {x:Value} w,(i == 13 || i == 14)=false ->  AZ L x w->AZ (L.setIfInBounds i true) x w):=ab (by
   intro i L x w q h;simp only [Bool.or_eq_false_iff,beq_eq_false_iff_ne] at q;rw [A6] at h ⊢;simp only [Mix.one_ne q.1,Mix.one_ne q.2];exact h)
  have Bv:Hid (∀ L {x:Value} w w1,AZ L x w->Below w.heap.size w w1->AZ L x w1):=ab (by
   intro L x w w1 h hb;rw [A6] at h ⊢
   (obtain ⟨q1,q2⟩:=h;exact ⟨q1.trans (hb.mono q1.size),fun e=>by obtain ⟨g,e1,e2,e3,e4⟩:=q2 e;exact ⟨g,e1,e2,fun f=>(e3 f).below hb (e3 f).lt,fun f=>(e4 f).below hb (e4 f).lt⟩⟩))
  have By:=ab (show ∀ x,AZ (Array.replicate 16 false) x w.drew from fun x=>by rw [A6];exact ⟨(Below.refl _ _).drew,fun e=>absurd e (by decide)⟩);have AX:=ab (fun (i:Nat) L {x:Value} w v q (h:AZ L x w) (e:Bw i v w)=>Reg.hk (Bd.out i L w q h) e (Bm.out w));have AW:=ab A6;have Bi:=ab Bh;clear A6 Bh
  go_wp2_with fail
  refine RegC.regionF 13 Bw AZ BA Bn.out (by kernel_rfl) (by kernel_rfl) (by kernel_rfl) By.out (fun GC AV=>?_);simp only [Reg.frame,Reg.dsts,List.map_cons,List.map_nil,Mix.put_lit,Reg.put_none,List.set_cons_succ,List.set_cons_zero,Nat.zero_add,Nat.reduceAdd] at AV;refine ⟨⟨?_,?_,?_,?_,?_,?_,?_,?_,?_,?_,?_,?_,?_,?_,?_,?_,trivial⟩,?_⟩
  ·intro Lq wq xq hh;simp only [AV];refine Reg.go rfl ?_;have HK:=AX.out 0 _ _ _ rfl hh.cls ((A2.out _ _).mpr rfl);go_simp;exact HK.out
  ·intro Lq wq xq hh;simp only [AV,(A2.out _ _).mp (hh.v 0)];refine Reg.go rfl ?_;have HK:=AX.out 1 _ _ _ rfl hh.cls ((A3.out _ _).mpr rfl);go_simp;exact HK.out
  ·intro Lq wq xq hh;simp only [AV,(A3.out _ _).mp (hh.v 1)];refine Reg.go rfl ?_;have HK:=AX.out 2 _ _ _ rfl hh.cls ((A4.out _ _).mpr rfl);go_simp;exact HK.out
  ·intro Lq wq xq hh;simp only [AV,(A4.out _ _).mp (hh.v 2)];refine Reg.go rfl ?_;have hc:AZ Lq (xq 13) wq:=hh.cls;rw [AW.out] at hc;have hp:=H.out.below hc.1;have q1:=hp.1.cell 1 _ rfl;have q2:=hp.1.cell 2 _ rfl;have q3:=hp.1.cell 3 _ rfl;clear hc;have HK:=AX.out 3 _ _ _ rfl hh.cls ((A5.out _ _).mpr rfl);go_simp;exact HK.out
  ·intro Lq wq xq hh;simp only [AV];refine Reg.go rfl ?_;have HK:=AX.out 4 _ _ _ rfl hh.cls ((Bc.out _ _).mpr rfl);go_simp;exact HK.out
  ·intro Lq wq xq hh;simp only [AV,(Bc.out _ _).mp (hh.v 4)];refine Reg.go rfl ?_;have HK:=AX.out 5 _ _ _ rfl hh.cls ((A9.out _ _).mpr rfl);go_simp;exact HK.out
  ·intro Lq wq xq hh;simp only [AV,(A9.out _ _).mp (hh.v 5)];refine Reg.go rfl ?_;have HK:=AX.out 6 _ _ _ rfl hh.cls ((Ba.out _ _).mpr rfl);go_simp;exact HK.out
  ·intro Lq wq xq hh;simp only [AV,(Ba.out _ _).mp (hh.v 6)];refine Reg.go rfl ?_;have hc:AZ Lq (xq 13) wq:=hh.cls;rw [AW.out] at hc;have hp:=H.out.below hc.1;have q0:=hp.1.cell 0 _ rfl;clear hc;have HK:=AX.out 7 _ _ _ rfl hh.cls ((A1.out _ _).mpr rfl);go_simp;exact HK.out
  ·intro Lq wq xq hh;simp only [AV,(A1.out _ _).mp (hh.v 7)];refine Reg.go rfl ?_;unfold Reg.upon;have hc:AZ Lq (xq 13) wq:=hh.cls;rw [AW.out] at hc;go_simp;refine (di B gg gr wd Rs wq (H.out.below hc.1).2.2.1).mono ?_;rintro e w2 ⟨rfl,rfl⟩;exact ⟨_,rfl,Bd.out 8 Lq wq rfl  hh.cls,(by rw [A7.out];try rfl),Bm.out _⟩
  ·intro Lq wq xq hh;simp only [AV,(A5.out _ _).mp (hh.v 3),(A7.out _ _).mp (hh.v 8)];refine Reg.go rfl ?_;unfold Reg.upon;have hc:AZ Lq (xq 13) wq:=hh.cls;rw [AW.out] at hc;go_simp;refine (HD.out wq).mono ?_;rintro e w2 ⟨rfl,hb⟩;exact ⟨_,rfl,Bd.out 9 Lq w2 rfl  (Bv.out Lq wq w2 hh.cls hb),(by rw [Be.out];try rfl),Bl.out wq w2 hb⟩
  ·intro Lq wq xq hh;simp only [AV,(Be.out _ _).mp (hh.v 9)];refine Reg.go rfl ?_;have HK:=AX.out 10 _ _ _ rfl hh.cls ((A0.out _ _).mpr rfl);go_simp;exact HK.out
  ·intro Lq wq xq hh;simp only [AV,(A0.out _ _).mp (hh.v 10)];refine Reg.go rfl ?_;have HK:=AX.out 11 _ _ _ rfl hh.cls ((Bg.out _ _).mpr rfl);go_simp;exact HK.out
  ·intro Lq wq xq hh;simp only [AV,(A0.out _ _).mp (hh.v 10)];refine Reg.go rfl ?_;have HK:=AX.out 12 _ _ _ rfl hh.cls ((Bk.out _ _).mpr rfl);go_simp;exact HK.out
  ·intro Lq wq xq hh;simp only [AV];refine Reg.go rfl ?_;unfold Reg.upon;have hc:AZ Lq (xq 13) wq:=hh.cls;rw [AW.out] at hc;have hn:=Has.new wq [.int .i64 0,.int .i64 0,.bool false] 24;have hb:=AU wq (.cells [Value.int .i64 0,.int .i64 0,.bool false].toArray 24);have hF:AZ (Lq.setIfInBounds 13 true) (.pointer (some ⟨wq.heap.size,0,none⟩)) (wq.alloc (.cells [Value.int .i64 0,.int .i64 0,.bool false].toArray 24)):=by
    rw [AW.out];refine ⟨hc.1.trans (hb.mono hc.1.size),fun _=>⟨_,rfl,hc.1.size,fun _=>hn,fun e=>?_⟩⟩;rw [Mix.one_ne (by decide),Mix.one_un (hh.notYet 14 (by kernel_rfl))] at e;exact absurd e (by decide)
   have hE:Bw 13 (.pointer (some ⟨wq.heap.size,0,none⟩)) (wq.alloc (.cells [Value.int .i64 0,.int .i64 0,.bool false].toArray 24)):=by rw [Bj.out];trivial
   have hX:BA wq (wq.alloc (.cells [Value.int .i64 0,.int .i64 0,.bool false].toArray 24)):=by rw [Bi.out];trivial
   go_simp;exact ⟨hF,hE,hX⟩
  ·intro Lq wq xq hh;have d13:=(Bj.out _ _).mp (hh.v 13);simp only [AV,(Bg.out _ _).mp (hh.v 11)];refine Reg.go rfl ?_;unfold Reg.upon;have hc:AZ Lq (xq 13) wq:=hh.cls;rw [AW.out] at hc;obtain ⟨g,e1,e2,e3,e4⟩:=hc.2 (hh.isDone 13 (by kernel_rfl));have hz:=e3 hh.un;have q0:=hz.cell 0 _ rfl;have q1:=hz.cell 1 _ rfl;have q2:=hz.cell 2 _ rfl;have g0:=hz.free 0;have g1:=hz.free 1;have g2:=hz.free 2;have hF:AZ (Lq.setIfInBounds 14 true) (xq 13) (((wq.setCell ⟨g,0,none⟩ (.int .i64 r)).setCell ⟨g,1,none⟩ (.int .i64 c)).setCell ⟨g,2,none⟩ (.bool false)):=by
    rw [AW.out];refine ⟨hc.1.trans ((((Upd.refl (fun b=>w.heap.size<=b) wq).setCell (p:=⟨g,0,none⟩) (.inl e2) _).setCell (p:=⟨g,1,none⟩) (.inl e2) _).setCell (p:=⟨g,2,none⟩) (.inl e2) _ |>.below hc.1.size fun _ e=>e),fun _=>⟨g,e1,e2,fun e=>?_,fun _=>((hz.set 0 _).set 1 _).set 2 _⟩⟩;rw [Mix.one_set (by rw [hh.size];decide)] at e;exact absurd e (by decide)
   have hE:Bw 14 undef (((wq.setCell ⟨g,0,none⟩ (.int .i64 r)).setCell ⟨g,1,none⟩ (.int .i64 c)).setCell ⟨g,2,none⟩ (.bool false)):=by rw [Bq.out]
   have hX:BA wq (((wq.setCell ⟨g,0,none⟩ (.int .i64 r)).setCell ⟨g,1,none⟩ (.int .i64 c)).setCell ⟨g,2,none⟩ (.bool false)):=by rw [Bi.out];trivial
   rw [e1];clear hc e3 e4;go_simp;exact ⟨hF,hE,hX⟩
  ·intro Lq wq xq hh;simp only [AV,(Bk.out _ _).mp (hh.v 12)];refine Reg.go rfl ?_;have HK:=AX.out 15 _ _ _ rfl hh.cls ((Bo.out _ _).mpr rfl);go_simp;exact HK.out
  intro xq DY Bp BD;rw [AW.out] at Bp;simp only [AV];have vrg13:=(Bj.out _ _).mp (BD 13 (by decide));have vrg15:=(Bo.out _ _).mp (BD 15 (by decide));rw [vrg15];clear BD AV AX Bd Bm Bn By AW Bi Bv Bl A2 A3 A4 A5 Bc A9 Ba A1 A7 Be A0 Bg Bk Bj Bq Bo;obtain ⟨hb,EW⟩:=Bp;obtain ⟨g,e1,hg,_,OG⟩:=EW (by kernel_rfl);have h4:=OG (by kernel_rfl);have hp:=H.out.below hb;have HB:=ab hb;rw [e1];clear vrg13 vrg15 e1 EW OG;have q0:=h4.cell 0 _ rfl;have q1:=h4.cell 1 _ rfl;have q2:=h4.cell 2 _ rfl;have p1:=hp.1.cell 1 _ rfl;have p2:=hp.1.cell 2 _ rfl;have p3:=hp.1.cell 3 _ rfl;have f1:=hp.1.free 1;have f2:=hp.1.free 2;have f3:=hp.1.free 3;obtain ⟨W5,CK⟩:=ae ((((DY.setCell ⟨gp,1,none⟩ (.int .i64 r)).setCell ⟨gp,2,none⟩ (.int .i64 c)).setCell ⟨gp,3,none⟩ (.bool false)));have hs5:=jw hp.1 (.int .i64 r) (.int .i64 c) (.bool false);rw [<-CK] at hs5;have h5:=hp.turn hs5.1 hs5.2;have Gf:=ab (show Upd (PZ w gp gr Rs) w W5 from (Upd.ofBelow HB.out).trans (hs5.2.mono fun b _ e=>.inl e));have DW:=ab CK;clear hb hp h4 hs5 CK
  go_upto_region 3 with (fail)
  rw [<-DW.out];clear q0 q1 q2 p1 p2 p3 f1 f2 f3 DW;have H5:=ab h5;have e0:=aj (h5.1.cell 0 _ rfl);have HG:=ab (show ∀ u:Growth W5,GridY Yo (ext W5 u) B gg gr wd Rs from fun u=>H5.out.2.2.1.below u.ok);clear h5;refine aC 9 (by kernel_rfl) (by simp) (by kernel_rfl) (by kernel_rfl) (by kernel_rfl) (by kernel_rfl) (by kernel_rfl) ?_;simp only [List.take_succ_cons,List.take_zero,List.drop_succ_cons,List.drop_zero]
  repeat (go_big_quiet_step ((go_at_call 95;exact aG (di B gg gr wd Rs _ (HG.out _)))))
  refine wpQuiet_nil ?_;intro _ hw';obtain ⟨u,hw''⟩:=hw';subst hw'';have h6:=H5.out.below u.ok;have NK:=xg B gg gr wd Rs Ls 0 Rs.length 1 (ext W5 u) (HG.out u) h6.2.2.2;rw [ID.out] at NK;have H6:=ab h6;have HU6:=ab (Gf.out.trans (.ofBelow u.ok));rw [ID.out];clear h6
  go_wp2_with fail
  refine NK.mono ?_;rintro e w7 ⟨rfl,R7,Ks,hm7,hu7,hf7⟩;have HF:=ab (PDoY.trans HU6.out (RowsFrom.self _ _) (PDoY.grid H6.out Ks hm7 hu7 hf7));clear Ks hm7 hu7 hf7 NK;go_wp2;exact bodyPost_end (by kernel_rfl) rfl ⟨rfl,HF.out⟩
end
section
variable {Yo : an}
def PAtY(Yo:an)(w0:World)(B gp gg gr wd:Nat)(Rs R1:List Rw)(Ls:List Ln)(r c:Int)(pd au:Bool)(w1:World):Prop:=PenY Yo w1 B gp gg gr wd R1 Ls r c pd au/\Upd (PZ w0 gp gr Rs) w0 w1/\RowsFrom w0 Rs R1
section
variable {w0 w1 w2 : World} {B gp gg gr wd : Nat} {Rs R1 R2 : List Rw} {Ls L2 : List Ln} {r c r2 c2 : Int} {pd au pd2 au2 : Bool}
theorem PAtY.start(h:PenY Yo w0 B gp gg gr wd Rs Ls r c pd au):PAtY Yo w0 B gp gg gr wd Rs Rs Ls r c pd au w0:=⟨h,.refl _ _,RowsFrom.self _ _⟩
theorem PAtY.below(h:PAtY Yo w0 B gp gg gr wd Rs R1 Ls r c pd au w1)(hb:Below w1.heap.size w1 w2):PAtY Yo w0 B gp gg gr wd Rs R1 Ls r c pd au w2:=⟨h.1.below hb,h.2.1.trans ((Upd.ofBelow (S:=fun _=>False) hb).mono fun _ _ e=>e.elim),h.2.2⟩
theorem PAtY.turn(h:PAtY Yo w0 B gp gg gr wd Rs R1 Ls r c pd au w1)(r2 c2:Int)(pd2:Bool):PAtY Yo w0 B gp gg gr wd Rs R1 Ls r2 c2 pd2 au (((w1.setCell ⟨gp,1,none⟩ (.int .i64 r2)).setCell ⟨gp,2,none⟩ (.int .i64 c2)).setCell ⟨gp,3,none⟩ (.bool pd2)):=by
 have h2:=jw h.1.1 (.int .i64 r2) (.int .i64 c2) (.bool pd2);exact ⟨h.1.turn h2.1 h2.2,h.2.1.trans (h2.2.mono fun b _ e=>.inl e),h.2.2⟩
theorem PAtY.grid(h:PAtY Yo w0 B gp gg gr wd Rs R1 Ls r c pd au w1)(hg:GridY Yo w2 B gg gr wd R2)(hm:R2.map aO=L2)(hu:Upd (kF w1 gr R1) w1 w2)(hf:RowsFrom w1 R1 R2):PAtY Yo w0 B gp gg gr wd Rs R2 L2 r c pd au w2 :=
 ⟨h.1.grid hg hm hu,h.2.1.trans (hu.mono fun b _ e=>PZ.from h.2.2 h.2.1.size b (.inr e)),h.2.2.trans hf h.2.1.size⟩
theorem PAtY.go(h:PAtY Yo w0 B gp gg gr wd Rs R1 Ls r c pd au w1)(k:PDoY Yo w1 B gp gg gr wd R1 L2 r2 c2 pd2 au2 w2):∃ R2,PAtY Yo w0 B gp gg gr wd Rs R2 L2 r2 c2 pd2 au2 w2:=by
 obtain ⟨R2,h1,h2,h3⟩:=k;exact ⟨R2,h1,h.2.1.trans (h2.mono fun b _ hb=>PZ.from h.2.2 h.2.1.size b hb),h.2.2.trans h3 h.2.1.size⟩
theorem PAtY.done(h:PAtY Yo w0 B gp gg gr wd Rs R1 Ls r c pd au w1):PDoY Yo w0 B gp gg gr wd Rs Ls r c pd au w1:=⟨R1,h⟩
theorem jv{Rs:List Rw}{Ls:List Ln}(h:Rs.map aO=Ls)(i:Nat)(hi:i<Rs.length):(Rs.getD i r0).L=(Ls.getD i zl).1/\(Rs.getD i r0).wrap=(Ls.getD i zl).2:=by
 have:=dJ h i hi;exact ⟨congrArg Prod.fst this,congrArg Prod.snd this⟩
theorem PAtY.mark(h:PAtY Yo w0 B gp gg gr wd Rs R1 Ls r c pd au w1)(i:Nat)(hi:i<R1.length)(hg:GridY Yo w2 B gg gr wd (R1.set i ⟨(R1.getD i r0).g,(R1.getD i r0).gc,(R1.getD i r0).L,true⟩))(hu:Upd (fun x=>x=(R1.getD i r0).g\/x=(R1.getD i r0).gc) w1 w2):PAtY Yo w0 B gp gg gr wd Rs (R1.set i ⟨(R1.getD i r0).g,(R1.getD i r0).gc,(R1.getD i r0).L,true⟩) (eO Ls i) r c pd au w2 :=
 h.grid hg (by rw [m9 h.1.2.2.2];unfold eO;rw [(jv h.1.2.2.2 i hi).1]) (hu.mono fun b _ e=>.inr (.inl ⟨i,hi,e⟩)) (p7 _ _ _ _)
theorem PAtY.paint(h:PAtY Yo w0 B gp gg gr wd Rs R1 Ls r c pd au w1)(i k:Nat)(p:List Cl)(hi:i<R1.length)(hg:GridY Yo w2 B gg gr wd (R1.set i ⟨(R1.getD i r0).g,(R1.getD i r0).gc,aN (R1.getD i r0).L p k,(R1.getD i r0).wrap && !a8 (R1.getD i r0).L p k⟩))(hu:Upd (fun x=>x=(R1.getD i r0).g\/x=(R1.getD i r0).gc) w1 w2):PAtY Yo w0 B gp gg gr wd Rs (R1.set i ⟨(R1.getD i r0).g,(R1.getD i r0).gc,aN (R1.getD i r0).L p k,(R1.getD i r0).wrap && !a8 (R1.getD i r0).L p k⟩) (cK Ls i k p) r c pd au w2 :=
 h.grid hg (by rw [m9 h.1.2.2.2];unfold cK;rw [(jv h.1.2.2.2 i hi).1,(jv h.1.2.2.2 i hi).2]) (hu.mono fun b _ e=>.inr (.inl ⟨i,hi,e⟩)) (p7 _ _ _ _)
end
theorem sC(B gp gg gr wd:Nat)(Rs:List Rw)(Ls:List Ln)(r:Nat)(c:Int)(pd au:Bool)(w:World)(h:PenY Yo w B gp gg gr wd Rs Ls r c pd au)(hr:r<Ls.length):Calls Tryz.prog 113 #[.pointer (some ⟨gp,0,none⟩)] w (fun e w'=>e=.returned (.tuple #[])/\PDoY Yo w B gp gg gr wd Rs (goL Ls r) (aW Ls r:Nat) 0 false au w'):=by
 have DB:=h.sizes.2.2.2.2.1;have e0:=aj (h.1.cell 0 _ rfl);have e1:=aj (h.1.cell 1 _ rfl);have hi:r<Rs.length:=by omega
 obtain ⟨gk,I1⟩:=ae ((Rs.getD r r0).g);have HG:=ab (show ∀ u:Growth w,Calls Tryz.prog 62 #[.pointer (some ⟨gg,0,none⟩),.int .i64 r] (ext w u) (fun e w'=>e=.returned (.pointer (some ⟨gk,0,none⟩))/\ext w u=w') from fun u=>by rw [I1];exact it B gg gr wd Rs r _ (h.2.2.1.below u.ok) hi);have Nt:=ab (show ∀ u:Growth w,Calls Tryz.prog 71 #[.pointer (some ⟨gk,0,none⟩),.bool true] (ext w u) _ from fun u=>by rw [I1];exact nd B gg gr wd r Rs true (ext w u) (h.2.2.1.below u.ok) hi);have H:=ab (PAtY.start h);have hdr:aW (eO Ls r) r=aW Ls r:=by unfold aW;rw [eD]
 have Em:r<(eO Ls r).length:=by rw [eD];exact hr
 have Oe:=ab hdr;have Mg:=ab Em;clear h DB hr hdr Em I1
 go_enter Tryz.func113,Tryz.ntmps113
 go_wp2_with fail
 refine aC 10 (by kernel_rfl) (by simp) (by kernel_rfl) (by kernel_rfl) (by kernel_rfl) (by kernel_rfl) (by kernel_rfl) ?_;simp only [List.take_succ_cons,List.take_zero,List.drop_succ_cons,List.drop_zero]
 repeat (go_big_quiet_step ((go_at_call 62;exact aG (HG.out _))))
 refine wpQuiet_nil ?_;intro _ hw';obtain ⟨u,hw''⟩:=hw';subst hw'';have H1:=ab (H.out.below u.ok);have hg1:=Nt.out u
 go_wp2_with fail
 refine hg1.mono ?_;rintro e w2 ⟨rfl,hg2,Fq⟩;have h2:=H1.out.mark r hi hg2 Fq;have H2:=ab h2;have q1:=h2.1.1.cell 1 _ rfl;have q2:=h2.1.1.cell 2 _ rfl;have q3:=h2.1.1.cell 3 _ rfl;clear hg1 hg2 Fq h2 e0 e1
 go_wp2_with fail
 refine (pX r c pd w2).mono ?_;rintro e w3 ⟨rfl,b3⟩;have h3:=H2.out.below b3;have p1:=h3.1.1.cell 1 _ rfl;have p2:=h3.1.1.cell 2 _ rfl;have p3:=h3.1.1.cell 3 _ rfl;have f1:=h3.1.1.free 1;have f2:=h3.1.1.free 2;have f3:=h3.1.1.free 3;have h4:=h3.turn r 0 false;obtain ⟨W4,IU⟩:=ae ((((w3.setCell ⟨gp,1,none⟩ (.int .i64 r)).setCell ⟨gp,2,none⟩ (.int .i64 0)).setCell ⟨gp,3,none⟩ (.bool false)));rw [<-IU] at h4;have H4:=ab h4;have KM:=ab IU;clear h3 h4 b3 q1 q2 q3 IU
 go_upto_region 2 with (fail)
 rw [<-KM.out];clear KM p1 p2 p3 f1 f2 f3;have hd:=m8 B gp gg gr wd _ (eO Ls r) r 0 false au W4 H4.out.1 Mg.out;rw [Oe.out] at hd
 go_wp2_with fail
 refine hd.mono ?_;rintro e w5 ⟨rfl,k5⟩;obtain ⟨R5,h5⟩:=H4.out.go k5;have HF:=ab h5.done;clear hd k5 h5;go_wp2;exact bodyPost_end (by kernel_rfl) rfl ⟨rfl,HF.out⟩
theorem um(B gp gg gr wd:Nat)(Rs:List Rw)(Ls:List Ln)(r c:Nat)(pd:Bool)(w:World)(h:PenY Yo w B gp gg gr wd Rs Ls r ((c:Int)+1) pd false)(hc:c<=2000):Calls Tryz.prog 114 #[.pointer (some ⟨gp,0,none⟩)] w (fun e w'=>e=.returned (.tuple #[])/\PDoY Yo w B gp gg gr wd Rs Ls r c false false w'):=by
 have q1:=h.1.cell 1 _ rfl;have q2:=h.1.cell 2 _ rfl;have q3:=h.1.cell 3 _ rfl;have q4:=h.1.cell 4 _ rfl;have H:=ab (PAtY.start h);have HC:=ab hc;clear h hc
 go_enter Tryz.func114,Tryz.ntmps114
 go_wp2_with fail
 refine (m6 r c pd w HC.out).mono ?_;rintro e w3 ⟨rfl,b3⟩;have h3:=H.out.below b3;have p1:=h3.1.1.cell 1 _ rfl;have p2:=h3.1.1.cell 2 _ rfl;have p3:=h3.1.1.cell 3 _ rfl;have f1:=h3.1.1.free 1;have f2:=h3.1.1.free 2;have f3:=h3.1.1.free 3;have HF:=ab (h3.turn r c false).done;clear h3 b3;go_wp2;exact bodyPost_ret (v:=.tuple #[]) (by simp [results,Tryz.results114,go_sem]) rfl ⟨rfl,HF.out⟩
theorem rI{w0 w:World}{B gp gg gr wd:Nat}{Rs R1:List Rw}{Ls:List Ln}{r c:Int}{pd au:Bool}(h:PAtY Yo w0 B gp gg gr wd Rs R1 Ls r c pd au w)(i a:Nat)(hi:i<R1.length)(p:List Cl)(v:Value)(Y:an)(hv:HeldE cellE Y w v p)(hY:∀ b,Y b->w0.heap.size<=b/\b≠(R1.getD i r0).g/\b≠(R1.getD i r0).gc)(hle:a+p.length<=wd)(hp:bz p=true) :
  Calls Tryz.prog 188 #[.pointer (some ⟨(R1.getD i r0).g,0,none⟩),.int .i64 a,v] w (fun e w2=>e=.returned .nilIface/\(∃ R2,PAtY Yo w0 B gp gg gr wd Rs R2 (cK Ls i a p) r c pd au w2)/\Upd (fun x=>x=(R1.getD i r0).g\/x=(R1.getD i r0).gc) w w2):=by
 have hs:=h.1.2.2.1.sizes.2.2.2.2 i hi;refine (h.1.2.2.1.painted (L:=aN (R1.getD i r0).L p a) (b:=(R1.getD i r0).wrap && !a8 (R1.getD i r0).L p a) hi (by rw [bR];exact hs) (fun Z hZ hr=>kH Z Y B _ _ _ p _ v w hr hv (fun b hb=>(hY b hb).2) hZ a (by omega) hp)).mono ?_;rintro e w2 ⟨rfl,hg,hu⟩;exact ⟨rfl,⟨_,h.paint i a p hi hg hu⟩,hu⟩
theorem uq{w0 w:World}{B gp gg gr wd:Nat}{Rs R1:List Rw}{Ls:List Ln}{r c:Int}{pd au:Bool}(h:PAtY Yo w0 B gp gg gr wd Rs R1 Ls r c pd au w)(i a:Nat)(k:Int)(hi:i<R1.length)(xs:List Int)(v:Value)(Y:an)(hv:HeldE (aF .i32) Y w v xs)(hw:iW wd (a:Int) (ofC k xs)=0) :
  Calls Tryz.prog 115 #[.pointer (some ⟨(R1.getD i r0).g,0,none⟩),.int .i64 a,.int .i64 k,v] w (fun e w2=>e=.returned .nilIface/\∃ R2,PAtY Yo w0 B gp gg gr wd Rs R2 (cK Ls i a (ofC k xs)) r c pd au w2):=by
 have hs:=h.1.2.2.1.sizes.2.2.2.2 i hi;refine (h.1.2.2.1.painted (L:=aN (R1.getD i r0).L (ofC k xs) a) (b:=(R1.getD i r0).wrap && !a8 (R1.getD i r0).L (ofC k xs) a) hi (by rw [bR];exact hs) (fun Z hZ hr=>by
  have:=Ad Z Y B _ _ _ (R1.getD i r0).wrap (a:Int) k v xs w hZ hr hv (by rw [hs];exact hw)
  rwa [Int.toNat_natCast] at this)).mono ?_
 rintro e w2 ⟨rfl,hg,hu⟩;exact ⟨rfl,_,h.paint i a _ hi hg hu⟩
end
section
variable {Yo : an}
theorem xa(B gp gg gr wd:Nat)(Rs:List Rw)(Ls:List Ln)(r c:Nat)(pd:Bool)(w:World)(h:PenY Yo w B gp gg gr wd Rs Ls r c pd true)(hr:r<Ls.length)(hc:c<wd):Calls Tryz.prog 114 #[.pointer (some ⟨gp,0,none⟩)] w (fun e w'=>e=.returned (.tuple #[])/\PDoY Yo w B gp gg gr wd Rs (goL (cK Ls r c [zc]) r) (aW Ls r:Nat) 0 false true w'):=by
 have DB:=h.sizes.2.2.2.2.1;have q4:=h.1.cell 4 _ rfl;have hi:r<Rs.length:=by omega
 have hlt:=h.2.2.1.lt.2.2.2.2.2 r hi;obtain ⟨gk,I1⟩:=ae ((Rs.getD r r0).g);have Ml:=ab hlt;have HI:=ab hi;have H:=ab (PAtY.start h);have hdr:aW (cK Ls r c [zc]) r=aW Ls r:=by unfold aW;rw [cY]
 have Em:r<(cK Ls r c [zc]).length:=by rw [cY];exact hr
 have Oe:=ab hdr;have Mg:=ab Em;have HGK:=ab I1;have HC:=ab hc;clear h DB hr hdr Em I1 hlt hi hc
 go_enter Tryz.func114,Tryz.ntmps114
 obtain ⟨AZ,A6⟩ : ∃ CC:Array Bool->World->Prop,CC=fun L8 w'=>(Mix.one L8 16=0->Below w.heap.size w w')/\(Mix.one L8 16=1->∃ R2,PAtY Yo w B gp gg gr wd Rs R2 (cK Ls r c [zc]) r c pd true w'):=⟨_,rfl⟩
 obtain ⟨BA,Bh⟩ : ∃ XX:World->World->Prop,XX=fun x y=>Upd (fun b=>b<w.heap.size) x y:=⟨_,rfl⟩
 obtain ⟨Bw,Bn,A2,A3,A4,A5,Bc,A9,Ba,A1,A7,Be,A0,Bg,Bk,Bj,Bq,Bo,Bs,_,_,_⟩:=Reg.e20 BA
  (fun xx _=>xx=.pointer (some ⟨gp,0,none⟩))
  (fun xx _=>xx=.pointer (some ⟨gp,0,none⟩))
  (fun xx _=>xx=.pointer (some ⟨gp,0,none⟩))
  (fun xx _=>xx=.pointer (some ⟨gg,0,none⟩))
  (fun xx _=>xx=.pointer (some ⟨gp,0,none⟩))
  (fun xx _=>xx=.pointer (some ⟨gp,0,none⟩))
  (fun xx _=>xx=.pointer (some ⟨gp,1,none⟩))
  (fun xx _=>xx=.pointer (some ⟨gp,1,none⟩))
  (fun xx _=>xx=.int .i64 r)
  (fun xx _=>xx=.pointer (some ⟨gk,0,none⟩))
  (fun xx _=>xx=.pointer (some ⟨gp,0,none⟩))
  (fun xx _=>xx=.pointer (some ⟨gp,0,none⟩))
  (fun xx _=>xx=.pointer (some ⟨gp,1,none⟩))
  (fun xx _=>xx=.pointer (some ⟨gp,2,none⟩))
  (fun xx _=>xx=.int .i64 c)
  (fun x w'=>HeldE cellE (fun b=>w.heap.size<=b) w' x [zc])
  (fun xx _=>xx=.nilIface)
  (fun _ _=>True) (fun _ _=>True) (fun _ _=>True)
  (s15:=fun x w w1 hx h=>by rw [Bh] at hx;exact HeldE.upd h hx (fun b hb e=>by omega))
 have Bd:Hid (∀ i L w,(i == 16)=false ->  AZ L w->AZ (L.setIfInBounds i true) w):=ab (by
  intro i L w q h;simp only [Bool.or_eq_false_iff,beq_eq_false_iff_ne] at q;rw [A6] at h ⊢;simp only [Mix.one_ne q];exact h)
 have Bv:Hid (∀ L w w1,AZ L w->Below w.heap.size w w1->AZ L w1):=ab (by
  intro L w w1 h hb;rw [A6] at h ⊢
  (obtain ⟨q1,q2⟩:=h;exact ⟨fun e=>(q1 e).trans (hb.mono (q1 e).size),fun e=>by obtain ⟨R2,h2⟩:=q2 e;exact ⟨R2,h2.below hb⟩⟩))
 have Bm:=ab (show ∀ w,BA w w from fun w=>by rw [Bh];exact Upd.refl _ _);have Bl:=ab (show ∀ w w1,Below w.heap.size w w1->BA w w1 from fun w w1 hb=>by rw [Bh];exact Upd.ofBelow hb);have By:=ab (show AZ (Array.replicate 17 false) w.drew from by rw [A6];exact ⟨fun _=>(Below.refl _ _).drew,fun e=>absurd e (by decide)⟩);have AX:=ab (fun (i:Nat) L w v q (h:AZ L w) (e:Bw i v w)=>Reg.hk (Bd.out i L w q h) e (Bm.out w));have AW:=ab A6;have Bi:=ab Bh;clear A6 Bh
 go_wp2_with fail
 refine Reg.regionF Bw AZ BA Bn.out (by kernel_rfl) (by kernel_rfl) (by kernel_rfl) By.out (fun GC AV=>?_);simp only [Reg.frame,Reg.dsts,List.map_cons,List.map_nil,Mix.put_lit,List.set_cons_succ,List.set_cons_zero,Nat.zero_add,Nat.reduceAdd] at AV;refine ⟨⟨?_,?_,?_,?_,?_,?_,?_,?_,?_,?_,?_,?_,?_,?_,?_,?_,?_,trivial⟩,?_⟩
 ·intro Lq wq xq hh;simp only [AV];refine Reg.go rfl ?_;have HK:=AX.out 0 _ _ _ rfl hh.cls ((A2.out _ _).mpr rfl);go_simp;exact HK.out
 ·intro Lq wq xq hh;simp only [AV,(A2.out _ _).mp (hh.v 0)];refine Reg.go rfl ?_;have HK:=AX.out 1 _ _ _ rfl hh.cls ((A3.out _ _).mpr rfl);go_simp;exact HK.out
 ·intro Lq wq xq hh;simp only [AV,(A3.out _ _).mp (hh.v 1)];refine Reg.go rfl ?_;have HK:=AX.out 2 _ _ _ rfl hh.cls ((A4.out _ _).mpr rfl);go_simp;exact HK.out
 ·intro Lq wq xq hh;simp only [AV,(A4.out _ _).mp (hh.v 2)];refine Reg.go rfl ?_;have hc:AZ Lq wq:=hh.cls;rw [AW.out] at hc;have hp:=H.out.below (hc.1 (Mix.one_un (hh.notYet 16 (by kernel_rfl))));have q0:=hp.1.1.cell 0 _ rfl;clear hc;have HK:=AX.out 3 _ _ _ rfl hh.cls ((A5.out _ _).mpr rfl);go_simp;exact HK.out
 ·intro Lq wq xq hh;simp only [AV];refine Reg.go rfl ?_;have HK:=AX.out 4 _ _ _ rfl hh.cls ((Bc.out _ _).mpr rfl);go_simp;exact HK.out
 ·intro Lq wq xq hh;simp only [AV,(Bc.out _ _).mp (hh.v 4)];refine Reg.go rfl ?_;have HK:=AX.out 5 _ _ _ rfl hh.cls ((A9.out _ _).mpr rfl);go_simp;exact HK.out
 ·intro Lq wq xq hh;simp only [AV,(A9.out _ _).mp (hh.v 5)];refine Reg.go rfl ?_;have HK:=AX.out 6 _ _ _ rfl hh.cls ((Ba.out _ _).mpr rfl);go_simp;exact HK.out
 ·intro Lq wq xq hh;simp only [AV,(Ba.out _ _).mp (hh.v 6)];refine Reg.go rfl ?_;have HK:=AX.out 7 _ _ _ rfl hh.cls ((A1.out _ _).mpr rfl);go_simp;exact HK.out
 ·intro Lq wq xq hh;simp only [AV,(A1.out _ _).mp (hh.v 7)];refine Reg.go rfl ?_;have hc:AZ Lq wq:=hh.cls;rw [AW.out] at hc;have hp:=H.out.below (hc.1 (Mix.one_un (hh.notYet 16 (by kernel_rfl))));have q0:=hp.1.1.cell 1 _ rfl;clear hc;have HK:=AX.out 8 _ _ _ rfl hh.cls ((A7.out _ _).mpr rfl);go_simp;exact HK.out
 ·intro Lq wq xq hh;simp only [AV,(A5.out _ _).mp (hh.v 3),(A7.out _ _).mp (hh.v 8)];refine Reg.go rfl ?_;unfold Reg.upon;have hc:AZ Lq wq:=hh.cls;rw [AW.out] at hc;go_simp;refine (show Calls Tryz.prog 62 #[.pointer (some ⟨gg,0,none⟩),.int .i64 r] wq (fun e w'=>e=.returned (.pointer (some ⟨gk,0,none⟩))/\wq=w') from by rw [HGK.out];exact it B gg gr wd Rs r wq (H.out.below (hc.1 (Mix.one_un (hh.notYet 16 (by kernel_rfl))))).1.2.2.1 HI.out).mono ?_;rintro e w2 ⟨rfl,rfl⟩;exact ⟨_,rfl,Bd.out 9 Lq wq rfl  hh.cls,(by rw [Be.out];try rfl),Bm.out _⟩
 ·intro Lq wq xq hh;simp only [AV];refine Reg.go rfl ?_;have HK:=AX.out 10 _ _ _ rfl hh.cls ((A0.out _ _).mpr rfl);go_simp;exact HK.out
 ·intro Lq wq xq hh;simp only [AV,(A0.out _ _).mp (hh.v 10)];refine Reg.go rfl ?_;have HK:=AX.out 11 _ _ _ rfl hh.cls ((Bg.out _ _).mpr rfl);go_simp;exact HK.out
 ·intro Lq wq xq hh;simp only [AV,(Bg.out _ _).mp (hh.v 11)];refine Reg.go rfl ?_;have HK:=AX.out 12 _ _ _ rfl hh.cls ((Bk.out _ _).mpr rfl);go_simp;exact HK.out
 ·intro Lq wq xq hh;simp only [AV,(Bk.out _ _).mp (hh.v 12)];refine Reg.go rfl ?_;have HK:=AX.out 13 _ _ _ rfl hh.cls ((Bj.out _ _).mpr rfl);go_simp;exact HK.out
 ·intro Lq wq xq hh;simp only [AV,(Bj.out _ _).mp (hh.v 13)];refine Reg.go rfl ?_;have hc:AZ Lq wq:=hh.cls;rw [AW.out] at hc;have hp:=H.out.below (hc.1 (Mix.one_un (hh.notYet 16 (by kernel_rfl))));have q0:=hp.1.1.cell 2 _ rfl;clear hc;have HK:=AX.out 14 _ _ _ rfl hh.cls ((Bq.out _ _).mpr rfl);go_simp;exact HK.out
 ·intro Lq wq xq hh;simp only [AV];refine Reg.go rfl ?_;unfold Reg.upon;have hc:AZ Lq wq:=hh.cls;rw [AW.out] at hc;go_simp;refine (iV (fun b=>w.heap.size<=b) 1 wq).mono ?_;rintro e w2 ⟨v2,rfl,BE,hb2⟩;refine ⟨_,rfl,Bd.out 15 Lq w2 (by decide) (Bv.out Lq wq w2 hh.cls hb2),?_,Bl.out wq w2 hb2⟩;rw [Bo.out];exact BE.held (fun b hb _=>Nat.le_trans (hc.1 (Mix.one_un (hh.notYet 16 (by kernel_rfl)))).size hb)
 ·intro Lq wq xq hh;have d15:=(Bo.out _ _).mp (hh.v 15);simp only [AV,(Be.out _ _).mp (hh.v 9),(Bq.out _ _).mp (hh.v 14)];refine Reg.go rfl ?_;unfold Reg.upon;have hc:AZ Lq wq:=hh.cls;rw [AW.out] at hc;go_simp;refine (show Calls Tryz.prog 188 #[.pointer (some ⟨gk,0,none⟩),.int .i64 c,xq 15] wq _ from by rw [HGK.out];exact rI (H.out.below (hc.1 hh.un)) r c HI.out [zc] (xq 15) _ d15 (fun b hb=>⟨hb,by have:=Ml.out;omega,by have:=Ml.out;omega⟩) (by have:=HC.out;simp only [List.length_singleton];omega) (by decide)).mono ?_;rintro e w2 ⟨rfl,h2,u2⟩;refine ⟨_,rfl,?_,(by rw [Bs.out]),by rw [Bi.out];exact u2.mono fun b _ e=>by have:=Ml.out;rcases e with e | e <;> omega⟩;rw [AW.out];exact ⟨fun e=>(by rw [Mix.one_set (by rw [hh.size];decide)] at e;exact absurd e (by decide)),fun _=>h2⟩
 intro xq DY Bp BD;rw [AW.out] at Bp;simp only [AV];clear BD AV AX Bd Bm Bn By AW Bi Bv Bl A2 A3 A4 A5 Bc A9 Ba A1 A7 Be A0 Bg Bk Bj Bq Bo Bs;obtain ⟨R2,h2⟩:=Bp.2 (by kernel_rfl);have H2:=ab h2;clear Bp h2 q4;have hd:=sC B gp gg gr wd _ (cK Ls r c [zc]) r c pd true DY H2.out.1 Mg.out;rw [Oe.out] at hd
 go_wp2_with fail
 refine hd.mono ?_;rintro e w5 ⟨rfl,k5⟩;obtain ⟨R5,h5⟩:=H2.out.go k5;have HF:=ab h5.done;clear hd k5 h5;go_wp2;exact bodyPost_end (by kernel_rfl) rfl ⟨rfl,HF.out⟩
theorem ul(B gp gg gr wd:Nat)(Rs:List Rw)(Ls:List Ln)(r c:Int)(pd au:Bool)(w:World)(h:PenY Yo w B gp gg gr wd Rs Ls r c pd au)(r2 c2:Nat)(hr2:inI r (ay Ls.length)=(r2:Int))(hc2:inI c (ay wd)=(c2:Int))(hlt:r2<Ls.length):Calls Tryz.prog 196 #[.pointer (some ⟨gp,0,none⟩)] w (fun e w'=>e=.returned (.tuple #[])/\PDoY Yo w B gp gg gr wd Rs (dD Ls r2) (aW Ls r2:Nat) c2 false au w'):=by
 have HH:=ab (m7 B gp gg gr wd Rs Ls r c pd au w h);rw [hr2,hc2] at HH;have H:=ab (PAtY.start h);have Ml:=ab hlt;obtain ⟨pd2,IK⟩:=ae (cI c pd wd);rw [<-IK] at HH;clear h hr2 hc2 hlt IK
 go_enter Tryz.func196,Tryz.ntmps196
 go_wp2_with fail
 refine HH.out.mono ?_;rintro e w2 ⟨rfl,k2⟩;obtain ⟨R2,h2⟩:=H.out.go k2;have H2:=ab h2;clear k2 h2;have hd:=m8 B gp gg gr wd R2 Ls r2 c2 pd2 au w2 H2.out.1 Ml.out
 go_wp2_with fail
 refine hd.mono ?_;rintro e w5 ⟨rfl,k5⟩;obtain ⟨R5,h5⟩:=H2.out.go k5;have HF:=ab h5.done;clear hd k5 h5;go_wp2;exact bodyPost_end (by kernel_rfl) rfl ⟨rfl,HF.out⟩
theorem pW(a b:Int)(w:World):Calls Tryz.prog 31 #[.int .i64 a,.int .i64 b] w (fun e w'=>∃ gp gg gr Rs,e=.returned (.pointer (some ⟨gp,0,none⟩))/\fX w' w.heap.size gp gg gr (df a) Rs (List.replicate (df b) (List.replicate (df a) zc,false)) 0 0 false true/\Below w.heap.size w w'):=by
 go_enter Tryz.func31,Tryz.ntmps31
 go_wp2_with fail
 refine (xw a b w).mono ?_;rintro e w1 ⟨gg,gr,Rs,rfl,hg,hm,b1⟩;have hb:=AU w1 (.cells [Value.pointer (some ⟨gg,0,none⟩),.int .i64 0,.int .i64 0,.bool false,.bool true].toArray 42);have hn:=Has.new w1 [Value.pointer (some ⟨gg,0,none⟩),.int .i64 0,.int .i64 0,.bool false,.bool true] 42;have HF:=ab (show fX (w1.alloc (.cells [Value.pointer (some ⟨gg,0,none⟩),.int .i64 0,.int .i64 0,.bool false,.bool true].toArray 42)) w.heap.size w1.heap.size gg gr (df a) Rs (List.replicate (df b) (List.replicate (df a) zc,false)) 0 0 false true from ⟨hn,b1.size,hg.below hb,hm⟩);have HB:=ab (b1.trans (hb.mono b1.size));clear hg hm b1 hb hn;go_wp2;go_ret;exact ⟨_,gg,gr,Rs,af,HF.out,HB.out⟩
end
theorem sd(r:Int)(p:Bool)(w:World):Calls Tryz.prog 187 #[.agg #[.int .i64 r,.int .i64 0,.bool p]] w (Gives w (.agg #[.int .i64 r,.int .i64 0,.bool false])):=by
 go_enter Tryz.func187,Tryz.ntmps187
 go_wp2_with fail
 obtain ⟨W,hW,hb,hr,hl⟩:=lR w (Value.int .i64 r) (.int .i64 0) (.bool false) (Value.int .i64 r) (.int .i64 0) (.bool false);rw [<-hW];have k0:=hr.cell 0 _ rfl;have k1:=hr.cell 1 _ rfl;have k2:=hr.cell 2 _ rfl;exact bodyPost_ret (v:=.agg #[.int .i64 r,.int .i64 0,.bool false]) (by simp [results,Tryz.results187,go_sem,k0,k1,k2]) rfl ⟨rfl,hl⟩
theorem vb(r:Int)(c:Nat)(p:Bool)(w:World)(hc:c<=2000):Calls Tryz.prog 187 #[.agg #[.int .i64 r,.int .i64 c,.bool p]] w (Gives w (.agg #[.int .i64 r,.int .i64 ((c - 1:Nat):Int),.bool false])):=by
 match c,hc with
 | 0,_=>exact sd r p w
 | c+1,hc=>exact m6 r c p w (by omega)
theorem zz(p:Option Addr)(k:Int)(w:World)(hs:bT k=false):Calls Tryz.prog 148 #[.pointer p,.int .i32 k] w (Gives w (.bool false)):=by
 have HS:=ab (lO k w);rw [hs] at HS;clear hs
 go_enter Tryz.func148,Tryz.ntmps148
 go_wp2_with fail
 refine HS.out.mono ?_;rintro e w1 ⟨rfl,b1⟩;go_wp2;go_ret;exact ⟨af,b1⟩
theorem yl{Yo:an}(B gp gg gr wd:Nat)(Rs:List Rw)(Ls:List Ln)(r c:Int)(pd au:Bool)(k:Int)(w:World)(h:PenY Yo w B gp gg gr wd Rs Ls r c pd au)(r2 c2:Nat)(hr2:inI r (ay Ls.length)=(r2:Int))(hc2:inI c (ay wd)=(c2:Int))(DX:r2<Ls.length)(hlc:c2<wd)(hs:bT k=true) :
  Calls Tryz.prog 148 #[.pointer (some ⟨gp,0,none⟩),.int .i32 k] w (fun e w'=>e=.returned (.bool true)/\PDoY Yo w B gp gg gr wd Rs (ctL Ls r2 k) (ctR Ls r r2 k) (ctC c c2 k) (ctP pd k) au w'):=by
 have hsz:=h.sizes;obtain ⟨ht,Nv⟩:=ae (Ls.length);have E6:=ab (show Calls Tryz.prog 147 #[.int .i32 k] w (Gives w (.bool true)) from by have h9:=lO k w;rw [hs] at h9;exact h9);obtain ⟨pd2,DZ⟩ : ∃ pd2,cI c pd wd=pd2:=⟨_,rfl⟩;have Ke:=ab (show ∀ w',Calls Tryz.prog 108 #[.agg #[.int .i64 r,.int .i64 c,.bool pd],.int .i64 wd,.int .i64 ht] w' (Gives w' (.agg #[.int .i64 r2,.int .i64 c2,.bool pd2])) from fun w'=>by
  have h1:=ns r c pd wd ht w';rw [Nv,hr2,hc2,DZ] at h1;rw [Nv];exact h1)
 have QJ:=ab Nv;have Oz:=ab (show c2<=2000 from by have:=hsz.2.2.2.1;omega);have H0:=ab (PAtY.start h);have IW:=ab (show ∀ w',PenY Yo w' B gp gg gr wd Rs Ls r c pd au->Calls Tryz.prog 196 #[.pointer (some ⟨gp,0,none⟩)] w' (fun e w2=>e=.returned (.tuple #[])/\PDoY Yo w' B gp gg gr wd Rs (dD Ls r2) (aW Ls r2:Nat) c2 false au w2) from fun w' h9=>ul B gp gg gr wd Rs Ls r c pd au w' h9 r2 c2 hr2 hc2 DX);obtain ⟨RL,FF⟩:=ae (ctL Ls r2 k);obtain ⟨rr,DO⟩:=ae (ctR Ls r r2 k);obtain ⟨cc,hcc⟩:=ae (ctC c c2 k);obtain ⟨pp,Cj⟩:=ae (ctP pd k);rw [<-FF,<-DO,<-hcc,<-Cj];have HQ:=ab (And.intro FF (And.intro DO (And.intro hcc Cj)));clear h Nv hr2 hc2 DZ hsz DX hlc hs FF DO hcc Cj
 go_enter Tryz.func148,Tryz.ntmps148
 go_wp2_with fail
 refine E6.out.mono ?_;rintro e w1 ⟨rfl,b1⟩;have H1:=ab (H0.out.below b1);have c0:=H1.out.1.1.cell 0 _ rfl;have H:=ab H1.out.1;clear b1 H0 E6
 go_upto_region 5 with (fail)
 clear c0;have IO:=ab (show ∀ w',Below w1.heap.size w1 w'->Calls Tryz.prog 95 #[.pointer (some ⟨gg,0,none⟩)] w' (fun e w2=>e=.returned (.int .i64 ht)/\w'=w2) from fun w' hb=>by
  have h1:=di B gg gr wd Rs w' (H.out.below hb).2.2.1;rw [H.out.sizes.2.2.2.2.1,<-QJ.out] at h1;exact h1)
 obtain ⟨AZ,A6⟩ : ∃ CC:Array Bool->Value->World->Prop,CC=fun L8 x w'=>Below w1.heap.size w1 w'/\(Mix.one L8 15=1->∃ g,x=.pointer (some ⟨g,0,none⟩)/\w1.heap.size<=g/\(Mix.one L8 16=0->Has w' g [.int .i64 0,.int .i64 0,.bool false] 24)/\(Mix.one L8 16=1->Has w' g [.int .i64 r2,.int .i64 c2,.bool pd2] 24)):=⟨_,rfl⟩
 obtain ⟨BA,Bh,Bm,Bl⟩:=Reg.xT;obtain ⟨Bw,Bn,A2,A3,A4,A5,Bc,A9,Ba,A1,A7,Be,A0,Bg,Bk,Bj,Bq,Bo,Bs,_,_,_⟩:=Reg.e20 BA
  (fun xx _=>xx=.pointer (some ⟨gp,0,none⟩))
  (fun xx _=>xx=.pointer (some ⟨gp,0,none⟩))
  (fun xx _=>xx=.pointer (some ⟨gp,1,none⟩))
  (fun xx _=>xx=.agg #[.int .i64 r,.int .i64 c,.bool pd])
  (fun xx _=>xx=.pointer (some ⟨gp,0,none⟩))
  (fun xx _=>xx=.pointer (some ⟨gp,0,none⟩))
  (fun xx _=>xx=.pointer (some ⟨gp,0,none⟩))
  (fun xx _=>xx=.pointer (some ⟨gg,0,none⟩))
  (fun xx _=>xx=.int .i64 wd)
  (fun xx _=>xx=.pointer (some ⟨gp,0,none⟩))
  (fun xx _=>xx=.pointer (some ⟨gp,0,none⟩))
  (fun xx _=>xx=.pointer (some ⟨gp,0,none⟩))
  (fun xx _=>xx=.pointer (some ⟨gg,0,none⟩))
  (fun xx _=>xx=.int .i64 ht)
  (fun xx _=>xx=.agg #[.int .i64 r2,.int .i64 c2,.bool pd2])
  (fun x w'=>True)
  (fun xx _=>xx=undef)
  (fun _ _=>True) (fun _ _=>True) (fun _ _=>True)
  (s15:=fun x w w1 hx h=>by rw [Bh] at hx;exact h)
 have Bd:Hid (∀ i L {x:Value} w,(i == 15 || i == 16)=false ->  AZ L x w->AZ (L.setIfInBounds i true) x w):=ab (by
  intro i L x w q h;simp only [Bool.or_eq_false_iff,beq_eq_false_iff_ne] at q;rw [A6] at h ⊢;simp only [Mix.one_ne q.1,Mix.one_ne q.2];exact h)
 have Bv:Hid (∀ L {x:Value} w w1,AZ L x w->Below w.heap.size w w1->AZ L x w1):=ab (by
  intro L x w w1 h hb;rw [A6] at h ⊢
  (obtain ⟨q1,q2⟩:=h;exact ⟨q1.trans (hb.mono q1.size),fun e=>by obtain ⟨g,e1,e2,e3,e4⟩:=q2 e;exact ⟨g,e1,e2,fun f=>(e3 f).below hb (e3 f).lt,fun f=>(e4 f).below hb (e4 f).lt⟩⟩))
 have By:=ab (show ∀ x,AZ (Array.replicate 17 false) x w1.drew from fun x=>by rw [A6];exact ⟨(Below.refl _ _).drew,fun e=>absurd e (by decide)⟩);have AX:=ab (fun (i:Nat) L {x:Value} w v q (h:AZ L x w) (e:Bw i v w)=>Reg.hk (Bd.out i L w q h) e (Bm.out w));have AW:=ab A6;have Bi:=ab Bh;clear A6 Bh
 go_wp2_with fail
 refine RegC.regionF 15 Bw AZ BA Bn.out (by kernel_rfl) (by kernel_rfl) (by kernel_rfl) By.out (fun GC AV=>?_);simp only [Reg.frame,Reg.dsts,List.map_cons,List.map_nil,Mix.put_lit,Reg.put_none,List.set_cons_succ,List.set_cons_zero,Nat.zero_add,Nat.reduceAdd] at AV;refine ⟨⟨?_,?_,?_,?_,?_,?_,?_,?_,?_,?_,?_,?_,?_,?_,?_,?_,?_,trivial⟩,?_⟩
 ·intro Lq wq xq hh;simp only [AV];refine Reg.go rfl ?_;have HK:=AX.out 0 _ _ _ rfl hh.cls ((A2.out _ _).mpr rfl);go_simp;exact HK.out
 ·intro Lq wq xq hh;simp only [AV,(A2.out _ _).mp (hh.v 0)];refine Reg.go rfl ?_;have HK:=AX.out 1 _ _ _ rfl hh.cls ((A3.out _ _).mpr rfl);go_simp;exact HK.out
 ·intro Lq wq xq hh;simp only [AV,(A3.out _ _).mp (hh.v 1)];refine Reg.go rfl ?_;have HK:=AX.out 2 _ _ _ rfl hh.cls ((A4.out _ _).mpr rfl);go_simp;exact HK.out
 ·intro Lq wq xq hh;simp only [AV,(A4.out _ _).mp (hh.v 2)];refine Reg.go rfl ?_;have hc:AZ Lq (xq 15) wq:=hh.cls;rw [AW.out] at hc;have hp:=H.out.below hc.1;have q1:=hp.1.cell 1 _ rfl;have q2:=hp.1.cell 2 _ rfl;have q3:=hp.1.cell 3 _ rfl;clear hc;have HK:=AX.out 3 _ _ _ rfl hh.cls ((A5.out _ _).mpr rfl);go_simp;exact HK.out
 ·intro Lq wq xq hh;simp only [AV];refine Reg.go rfl ?_;have HK:=AX.out 4 _ _ _ rfl hh.cls ((Bc.out _ _).mpr rfl);go_simp;exact HK.out
 ·intro Lq wq xq hh;simp only [AV,(Bc.out _ _).mp (hh.v 4)];refine Reg.go rfl ?_;have HK:=AX.out 5 _ _ _ rfl hh.cls ((A9.out _ _).mpr rfl);go_simp;exact HK.out
 ·intro Lq wq xq hh;simp only [AV,(A9.out _ _).mp (hh.v 5)];refine Reg.go rfl ?_;have HK:=AX.out 6 _ _ _ rfl hh.cls ((Ba.out _ _).mpr rfl);go_simp;exact HK.out
 ·intro Lq wq xq hh;simp only [AV,(Ba.out _ _).mp (hh.v 6)];refine Reg.go rfl ?_;have hc:AZ Lq (xq 15) wq:=hh.cls;rw [AW.out] at hc;have hp:=H.out.below hc.1;have q0:=hp.1.cell 0 _ rfl;clear hc;have HK:=AX.out 7 _ _ _ rfl hh.cls ((A1.out _ _).mpr rfl);go_simp;exact HK.out
 ·intro Lq wq xq hh;simp only [AV,(A1.out _ _).mp (hh.v 7)];refine Reg.go rfl ?_;unfold Reg.upon;have hc:AZ Lq (xq 15) wq:=hh.cls;rw [AW.out] at hc;go_simp;refine (eZ B gg gr wd Rs wq (H.out.below hc.1).2.2.1).mono ?_;rintro e w2 ⟨rfl,rfl⟩;exact ⟨_,rfl,Bd.out 8 Lq wq rfl  hh.cls,(by rw [A7.out];try rfl),Bm.out _⟩
 ·intro Lq wq xq hh;simp only [AV];refine Reg.go rfl ?_;have HK:=AX.out 9 _ _ _ rfl hh.cls ((Be.out _ _).mpr rfl);go_simp;exact HK.out
 ·intro Lq wq xq hh;simp only [AV,(Be.out _ _).mp (hh.v 9)];refine Reg.go rfl ?_;have HK:=AX.out 10 _ _ _ rfl hh.cls ((A0.out _ _).mpr rfl);go_simp;exact HK.out
 ·intro Lq wq xq hh;simp only [AV,(A0.out _ _).mp (hh.v 10)];refine Reg.go rfl ?_;have HK:=AX.out 11 _ _ _ rfl hh.cls ((Bg.out _ _).mpr rfl);go_simp;exact HK.out
 ·intro Lq wq xq hh;simp only [AV,(Bg.out _ _).mp (hh.v 11)];refine Reg.go rfl ?_;have hc:AZ Lq (xq 15) wq:=hh.cls;rw [AW.out] at hc;have hp:=H.out.below hc.1;have q0:=hp.1.cell 0 _ rfl;clear hc;have HK:=AX.out 12 _ _ _ rfl hh.cls ((Bk.out _ _).mpr rfl);go_simp;exact HK.out
 ·intro Lq wq xq hh;simp only [AV,(Bk.out _ _).mp (hh.v 12)];refine Reg.go rfl ?_;unfold Reg.upon;have hc:AZ Lq (xq 15) wq:=hh.cls;rw [AW.out] at hc;go_simp;refine (IO.out wq hc.1).mono ?_;rintro e w2 ⟨rfl,rfl⟩;exact ⟨_,rfl,Bd.out 13 Lq wq rfl  hh.cls,(by rw [Bj.out];try rfl),Bm.out _⟩
 ·intro Lq wq xq hh;simp only [AV,(A5.out _ _).mp (hh.v 3),(A7.out _ _).mp (hh.v 8),(Bj.out _ _).mp (hh.v 13)];refine Reg.go rfl ?_;unfold Reg.upon;have hc:AZ Lq (xq 15) wq:=hh.cls;rw [AW.out] at hc;go_simp;refine (Ke.out wq).mono ?_;rintro e w2 ⟨rfl,hb⟩;exact ⟨_,rfl,Bd.out 14 Lq w2 rfl  (Bv.out Lq wq w2 hh.cls hb),(by rw [Bq.out];try rfl),Bl.out wq w2 hb⟩
 ·intro Lq wq xq hh;simp only [AV];refine Reg.go rfl ?_;unfold Reg.upon;have hc:AZ Lq (xq 15) wq:=hh.cls;rw [AW.out] at hc;have hn:=Has.new wq [.int .i64 0,.int .i64 0,.bool false] 24;have hb:=AU wq (.cells [Value.int .i64 0,.int .i64 0,.bool false].toArray 24);have hF:AZ (Lq.setIfInBounds 15 true) (.pointer (some ⟨wq.heap.size,0,none⟩)) (wq.alloc (.cells [Value.int .i64 0,.int .i64 0,.bool false].toArray 24)):=by
   rw [AW.out];refine ⟨hc.1.trans (hb.mono hc.1.size),fun _=>⟨_,rfl,hc.1.size,fun _=>hn,fun e=>?_⟩⟩;rw [Mix.one_ne (by decide),Mix.one_un (hh.notYet 16 (by kernel_rfl))] at e;exact absurd e (by decide)
  have hE:Bw 15 (.pointer (some ⟨wq.heap.size,0,none⟩)) (wq.alloc (.cells [Value.int .i64 0,.int .i64 0,.bool false].toArray 24)):=by rw [Bo.out];trivial
  have hX:BA wq (wq.alloc (.cells [Value.int .i64 0,.int .i64 0,.bool false].toArray 24)):=by rw [Bi.out];trivial
  go_simp;exact ⟨hF,hE,hX⟩
 ·intro Lq wq xq hh;have d15:=(Bo.out _ _).mp (hh.v 15);simp only [AV,(Bq.out _ _).mp (hh.v 14)];refine Reg.go rfl ?_;unfold Reg.upon;have hc:AZ Lq (xq 15) wq:=hh.cls;rw [AW.out] at hc;obtain ⟨g,e1,e2,e3,e4⟩:=hc.2 (hh.isDone 15 (by kernel_rfl));have hz:=e3 hh.un;have q0:=hz.cell 0 _ rfl;have q1:=hz.cell 1 _ rfl;have q2:=hz.cell 2 _ rfl;have g0:=hz.free 0;have g1:=hz.free 1;have g2:=hz.free 2;have hF:AZ (Lq.setIfInBounds 16 true) (xq 15) (((wq.setCell ⟨g,0,none⟩ (.int .i64 r2)).setCell ⟨g,1,none⟩ (.int .i64 c2)).setCell ⟨g,2,none⟩ (.bool pd2)):=by
   rw [AW.out];refine ⟨hc.1.trans ((((Upd.refl (fun b=>w1.heap.size<=b) wq).setCell (p:=⟨g,0,none⟩) (.inl e2) _).setCell (p:=⟨g,1,none⟩) (.inl e2) _).setCell (p:=⟨g,2,none⟩) (.inl e2) _ |>.below hc.1.size fun _ e=>e),fun _=>⟨g,e1,e2,fun e=>?_,fun _=>((hz.set 0 _).set 1 _).set 2 _⟩⟩;rw [Mix.one_set (by rw [hh.size];decide)] at e;exact absurd e (by decide)
  have hE:Bw 16 undef (((wq.setCell ⟨g,0,none⟩ (.int .i64 r2)).setCell ⟨g,1,none⟩ (.int .i64 c2)).setCell ⟨g,2,none⟩ (.bool pd2)):=by rw [Bs.out]
  have hX:BA wq (((wq.setCell ⟨g,0,none⟩ (.int .i64 r2)).setCell ⟨g,1,none⟩ (.int .i64 c2)).setCell ⟨g,2,none⟩ (.bool pd2)):=by rw [Bi.out];trivial
  rw [e1];clear hc e3 e4;go_simp;exact ⟨hF,hE,hX⟩
 intro xq DY Bp BD;rw [AW.out] at Bp;simp only [AV];have vrg15:=(Bo.out _ _).mp (BD 15 (by decide));clear BD AV AX Bd Bm Bn By AW Bi Bv Bl A2 A3 A4 A5 Bc A9 Ba A1 A7 Be A0 Bg Bk Bj Bq Bo Bs;obtain ⟨hb,OC⟩:=Bp;obtain ⟨g,e1,hg,_,Mt⟩:=OC (by kernel_rfl);have HC:=ab (Mt (by kernel_rfl));have H3:=ab (H1.out.below hb);rw [e1];clear hb OC Mt e1 hg Ke IO H H1 vrg15;have q0:=HC.out.cell 0 _ rfl;have q1:=HC.out.cell 1 _ rfl;have q2:=HC.out.cell 2 _ rfl;obtain rfl | EW:k=13\/k≠13:=by omega
 ·obtain ⟨e1,e2,e3,e4⟩:=HQ.out;obtain ⟨t1,t2,t3,t4⟩:=zS Ls r c r2 c2 pd;have HE:=ab (And.intro (e1.trans t1) (And.intro (e2.trans t2) (And.intro (e3.trans t3) (e4.trans t4))));clear e1 e2 e3 e4 t1 t2 t3 t4
  go_wp2_with fail
  refine (pX r2 c2 pd2 DY).mono ?_;rintro e w3 ⟨rfl,b3⟩;have h3:=H3.out.below b3;have p1:=h3.1.1.cell 1 _ rfl;have p2:=h3.1.1.cell 2 _ rfl;have p3:=h3.1.1.cell 3 _ rfl;have f1:=h3.1.1.free 1;have f2:=h3.1.1.free 2;have f3:=h3.1.1.free 3;have HF:=ab (h3.turn r2 0 false).done;clear h3 b3 q0 q1 q2;go_wp2;go_ret;refine ⟨af,?_⟩;rw [HE.out.1,HE.out.2.1,HE.out.2.2.1,HE.out.2.2.2];exact HF.out
 obtain rfl | h10:k=10\/k≠10:=by omega
 ·obtain ⟨e1,e2,e3,e4⟩:=HQ.out;obtain ⟨t1,t2,t3,t4⟩:=zT Ls r c r2 c2 pd;have HE:=ab (And.intro (e1.trans t1) (And.intro (e2.trans t2) (And.intro (e3.trans t3) (e4.trans t4))));clear e1 e2 e3 e4 t1 t2 t3 t4
  go_wp2_with fail
  refine (IW.out _ H3.out.1).mono ?_;rintro e w3 ⟨rfl,k3⟩;obtain ⟨R5,h5⟩:=H3.out.go k3;have HF:=ab h5.done;clear k3 h5 q0 q1 q2;go_wp2;go_ret;refine ⟨af,?_⟩;rw [HE.out.1,HE.out.2.1,HE.out.2.2.1,HE.out.2.2.2];exact HF.out
 obtain rfl | h8:k=8\/k≠8:=by omega
 ·obtain ⟨e1,e2,e3,e4⟩:=HQ.out;obtain ⟨t1,t2,t3,t4⟩:=AF Ls r c r2 c2 pd;have HE:=ab (And.intro (e1.trans t1) (And.intro (e2.trans t2) (And.intro (e3.trans t3) (e4.trans t4))));clear e1 e2 e3 e4 t1 t2 t3 t4
  go_wp2_with fail
  refine (vb r2 c2 pd2 DY Oz.out).mono ?_;rintro e w3 ⟨rfl,b3⟩;have h3:=H3.out.below b3;have p1:=h3.1.1.cell 1 _ rfl;have p2:=h3.1.1.cell 2 _ rfl;have p3:=h3.1.1.cell 3 _ rfl;have f1:=h3.1.1.free 1;have f2:=h3.1.1.free 2;have f3:=h3.1.1.free 3;have HF:=ab (h3.turn r2 ((c2 - 1:Nat):Int) false).done;clear h3 b3 q0 q1 q2;go_wp2;go_ret;refine ⟨af,?_⟩;rw [HE.out.1,HE.out.2.1,HE.out.2.2.1,HE.out.2.2.2];exact HF.out
 have n13:(k == 13)=false:=by rw [beq_eq_false_iff_ne];exact EW
 have n10:(k == 10)=false:=by rw [beq_eq_false_iff_ne];exact h10
 have n8:(k == 8)=false:=by rw [beq_eq_false_iff_ne];exact h8
 obtain ⟨e1,e2,e3,e4⟩:=HQ.out;obtain ⟨t1,t2,t3,t4⟩:=yi Ls r c r2 c2 pd k (by omega);have HE:=ab (And.intro (e1.trans t1) (And.intro (e2.trans t2) (And.intro (e3.trans t3) (e4.trans t4))));clear e1 e2 e3 e4 t1 t2 t3 t4;have HF:=ab H3.out.done;clear EW h10 h8 q0 q1 q2;go_wp2;go_ret;refine ⟨af,?_⟩;rw [HE.out.1,HE.out.2.1,HE.out.2.2.1,HE.out.2.2.2];exact HF.out
theorem ym{k:Int}(h:bT k=false):k≠13/\k≠10/\k≠8:=by
 refine ⟨?_,?_,?_⟩ <;> rintro rfl <;> exact absurd h (by decide)
theorem yn{Yo:an}(B gp gg gr wd:Nat)(Rs:List Rw)(Ls:List Ln)(r c:Int)(pd au:Bool)(k:Int)(w:World)(h:PenY Yo w B gp gg gr wd Rs Ls r c pd au)(r2 c2:Nat)(hr2:inI r (ay Ls.length)=(r2:Int))(hc2:inI c (ay wd)=(c2:Int))(DX:r2<Ls.length)(hlc:c2<wd) :
  Calls Tryz.prog 148 #[.pointer (some ⟨gp,0,none⟩),.int .i32 k] w (fun e w'=>e=.returned (.bool (bT k))/\PDoY Yo w B gp gg gr wd Rs (ctL Ls r2 k) (ctR Ls r r2 k) (ctC c c2 k) (ctP pd k) au w'):=by
 by_cases hs:bT k=true
 ·rw [hs];exact yl B gp gg gr wd Rs Ls r c pd au k w h r2 c2 hr2 hc2 DX hlc hs
 ·have hs:=Bool.eq_false_iff.2 hs;obtain ⟨t1,t2,t3,t4⟩:=yi Ls r c r2 c2 pd k (ym hs);rw [hs,t1,t2,t3,t4];refine (zz _ k w hs).mono ?_;rintro e w1 ⟨rfl,b1⟩;exact ⟨rfl,PDoY.below h b1⟩
theorem gF(w:World)(a0 a1 a2 a3 a4 b0 b1 b2 b3 b4:Value):∃ W,W=(w.alloc (.cells #[a0,a1,a2,a3,a4] 43)).alloc (.cells #[b0,b1,b2,b3,b4] 43) /\
  Has W w.heap.size [a0,a1,a2,a3,a4] 43/\Has W (w.heap.size+1) [b0,b1,b2,b3,b4] 43/\Below w.heap.size w W:=by
 refine ⟨_,rfl,(Has.new w _ _).alloc _,?_,(AU _ _).alloc (by simp) _⟩;have:=Has.new (w.alloc (.cells #[a0,a1,a2,a3,a4] 43)) [b0,b1,b2,b3,b4] 43
 simpa using this
theorem yb{w W:World}{g:Nat}{p a b d e:Value}{D:List Value}(h:Has W g [p,a,b,d,e] 43)(k:Has W (g+1) D 43)(hb:Below w.heap.size w W)(hg:w.heap.size<=g)(x y z:Value):∃ W',W'=((W.setCell ⟨g,1,none⟩ x).setCell ⟨g,2,none⟩ y).setCell ⟨g,3,none⟩ z/\Has W' g [p,x,y,z,e] 43/\Has W' (g+1) D 43/\Below w.heap.size w W'/\Upd (fun b=>b=g) W W' :=
 ⟨_,rfl,((h.set 1 x).set 2 y).set 3 z,((k.setOther ⟨g,1,none⟩ x (by show g+1≠g;omega)).setOther ⟨g,2,none⟩ y (by show g+1≠g;omega)).setOther ⟨g,3,none⟩ z (by show g+1≠g;omega),
  hb.trans ((((Upd.refl (fun b=>w.heap.size<=b) W).setCell (p:=⟨g,1,none⟩) (.inl hg) x).setCell (p:=⟨g,2,none⟩) (.inl hg) y).setCell (p:=⟨g,3,none⟩) (.inl hg) z |>.below hb.size fun _ e=>e),(((Upd.refl (fun b=>b=g) W).setCell (p:=⟨g,1,none⟩) (.inl rfl) x).setCell (p:=⟨g,2,none⟩) (.inl rfl) y).setCell (p:=⟨g,3,none⟩) (.inl rfl) z⟩
theorem iC{w W:World}{g:Nat}(hb:Below w.heap.size w W)(hg:w.heap.size<=g)(a b c d e:Value):Below w.heap.size w (((((W.setCell ⟨g,0,none⟩ a).setCell ⟨g,1,none⟩ b).setCell ⟨g,2,none⟩ c).setCell ⟨g,3,none⟩ d).setCell ⟨g,4,none⟩ e) :=
 hb.trans ((((((Upd.refl (fun b=>w.heap.size<=b) W).setCell (p:=⟨g,0,none⟩) (.inl hg) a).setCell (p:=⟨g,1,none⟩) (.inl hg) b).setCell (p:=⟨g,2,none⟩) (.inl hg) c).setCell (p:=⟨g,3,none⟩) (.inl hg) d).setCell (p:=⟨g,4,none⟩) (.inl hg) e |>.below hb.size fun _ e=>e)
def qo(Z:an)(w:World)(Ls:List Ln)(r c:Int)(pd au:Bool)(e:Ending)(w':World):Prop:=∃ v,e=.returned (.agg #[v,.int .i64 r,.int .i64 c,.bool pd,.bool au])/\HeldE lineE (fun b=>Z b\/(w.heap.size<=b/\b<w'.heap.size)) w' v Ls/\Below w.heap.size w w'
theorem sP(Z:an)(v:Value)(Ls:List Ln)(r c:Int)(pd au:Bool)(w:World)(hv:HeldE lineE Z w v Ls)(h0:0<Ls.length):Calls Tryz.prog 107 #[.agg #[v,.int .i64 r,.int .i64 c,.bool pd,.bool au]] w (Gives w (.int .i64 ((Ls.getD 0 zl).1.length:Nat))):=by
 obtain ⟨ao,ca,rfl⟩:=hv.len;obtain ⟨_,Cd,hc⟩:=fo hv;obtain ⟨b,off,cv,rfl,hb,_,z0,_,hz0⟩:=hc 0 h0;obtain ⟨a0,x0,rfl⟩:=hz0.len;rw [Nat.zero_mul,Nat.add_zero] at z0;obtain ⟨n,hn⟩:=ae (Ls.length);rw [<-hn] at h0 Cd ⊢;obtain ⟨m,hm⟩:=ae ((Ls.getD 0 zl).1.length);rw [<-hm] at z0 ⊢;have CY:=AU w (.cells [Value.slice (some ⟨b,off,none⟩) n ca,.int .i64 r,.int .i64 c,.bool pd,.bool au].toArray 43);have HB:=ab CY;have z1:=(CY.cell (p:=⟨b,off,none⟩) hb).trans z0;obtain ⟨W,hW⟩:=ae (w.alloc (.cells [Value.slice (some ⟨b,off,none⟩) n ca,.int .i64 r,.int .i64 c,.bool pd,.bool au].toArray 43));have Kg:=Has.new w [Value.slice (some ⟨b,off,none⟩) n ca,.int .i64 r,.int .i64 c,.bool pd,.bool au] 43;rw [<-hW] at z1 Kg HB;have q0:=Kg.cell 0 _ rfl;have Kd:W=w.alloc (.cells #[Value.slice (some ⟨b,off,none⟩) n ca,.int .i64 r,.int .i64 c,.bool pd,.bool au] 43):=hW;clear hv hc hz0 z0 CY Kg hW hm hn
 go_enter Tryz.func107,Tryz.ntmps107
 go_upto_region 1 with (fail)
 rw [<-Kd];clear Kd;go_wp2;go_ret;exact ⟨af,HB.out⟩
theorem iu(Z:an)(v:Value)(Ls:List Ln)(r c:Int)(pd au:Bool)(w:World)(hv:HeldE lineE Z w v Ls)(h0:0<Ls.length)(wd:Nat)(hwd:(Ls.getD 0 zl).1.length=wd):Calls Tryz.prog 141 #[.agg #[v,.int .i64 r,.int .i64 c,.bool pd,.bool au]] w (Gives w (.agg #[v,.int .i64 (inI r (ay Ls.length)),.int .i64 (inI c (ay wd)),.bool (cI c pd wd),.bool au])):=by
 obtain ⟨ao,ca,rfl⟩:=hv.len;obtain ⟨n,hn⟩:=ae (Ls.length);have HN:=ab hn;have HV:=ab hv;rw [<-hn] at h0 HV ⊢;obtain ⟨W,hW,hb,hr,hl⟩:=gF w (.slice ao n ca) (.int .i64 r) (.int .i64 c) (.bool pd) (.bool au) (.slice none 0 0) (.int .i64 0) (.int .i64 0) (.bool false) (.bool false);have HB:=ab hb;have HR:=ab hr;have HL:=ab hl;have PM:=ab (show ∀ w':World,Below w.heap.size w w'->Calls Tryz.prog 107 #[.agg #[.slice ao n ca,.int .i64 r,.int .i64 c,.bool pd,.bool au]] w' (Gives w' (.int .i64 wd)) from fun w' hb=>by
  have h:=sP Z (.slice ao n ca) Ls r c pd au w' (HV.out.below hb) (by omega);rw [hwd] at h;exact h)
 have e0:=aj (hb.cell 0 _ rfl);have e1:=aj (hb.cell 1 _ rfl);have e2:=aj (hb.cell 2 _ rfl);have e3:=aj (hb.cell 3 _ rfl);have e4:=aj (hb.cell 4 _ rfl);have f1:=aD (a:=⟨w.heap.size,1,none⟩) hb.lt (hb.free 1);have f2:=aD (a:=⟨w.heap.size,2,none⟩) hb.lt (hb.free 2);have f3:=aD (a:=⟨w.heap.size,3,none⟩) hb.lt (hb.free 3);clear hv hn hb hr hl hwd
 go_enter Tryz.func141,Tryz.ntmps141
 go_upto_region 1 with (fail)
 rw [<-hW];clear hW;refine aC 9 (by kernel_rfl) (by simp) (by kernel_rfl) (by kernel_rfl) (by kernel_rfl) (by kernel_rfl) (by kernel_rfl) ?_;simp only [List.take_succ_cons,List.take_zero,List.drop_succ_cons,List.drop_zero]
 repeat (go_big_quiet_step ((first | (go_at_call 107;exact ei (PM.out _ (aU HL.out _))) | (go_at_call 165;exact ei (uO r c pd wd n _)))))
 refine wpQuiet_nil ?_;intro _ hw';obtain ⟨u,hw''⟩:=hw';subst hw'';obtain ⟨W2,hW2⟩:=ae (ext W u);have hb2:Has W2 w.heap.size [.slice ao n ca,.int .i64 r,.int .i64 c,.bool pd,.bool au] 43:=by rw [hW2];exact HB.out.below u.ok HB.out.lt
 have hr2:Has W2 (w.heap.size+1) [.slice none 0 0,.int .i64 0,.int .i64 0,.bool false,.bool false] 43:=by rw [hW2];exact HR.out.below u.ok HR.out.lt
 have hl2:Below w.heap.size w W2:=by rw [hW2];exact aU HL.out u
 obtain ⟨W3,hW3,hb3,hr3,Dz,_⟩:=yb hb2 hr2 hl2 (Nat.le_refl _) (.int .i64 (inI r (ay n))) (.int .i64 (inI c (ay wd))) (.bool (cI c pd wd));have IG:=ab hW2;have CJ:=ab hb3;have Lc:=ab hr3;have C5:=ab Dz;have Jc:=ab hW3;clear hW2 hb2 hr2 hl2 hb3 hr3 Dz hW3
 go_upto_region 2 with (fail)
 rw [<-IG.out];rw [<-Jc.out];clear e0 e1 e2 e3 e4 f1 f2 f3;have hb3:=CJ.out;have hr3:=Lc.out;have c0:=hb3.cell 0 _ rfl;have c1:=hb3.cell 1 _ rfl;have c2:=hb3.cell 2 _ rfl;have c3:=hb3.cell 3 _ rfl;have c4:=hb3.cell 4 _ rfl;have k0:=hr3.cell 0 _ rfl;have k1:=hr3.cell 1 _ rfl;have k2:=hr3.cell 2 _ rfl;have k3:=hr3.cell 3 _ rfl;have k4:=hr3.cell 4 _ rfl;have g0:=hr3.free 0;have g1:=hr3.free 1;have g2:=hr3.free 2;have g3:=hr3.free 3;have g4:=hr3.free 4;have hlt:=hr3.lt;have Ca:=ab (iC (g:=w.heap.size+1) C5.out (by omega) (.slice ao n ca) (.int .i64 (inI r (ay n))) (.int .i64 (inI c (ay wd))) (.bool (cI c pd wd)) (.bool au));clear hb3 hr3;go_wp2;exact bodyPost_ret (v:=.agg #[.slice ao n ca,.int .i64 (inI r (ay n)),.int .i64 (inI c (ay wd)),.bool (cI c pd wd),.bool au]) (by simp [results,Tryz.results141,go_sem,k0,k1,k2,k3,k4]) rfl ⟨rfl,Ca.out⟩
theorem uT{α:Type}{E:Elem α}{Z:an}{w:World}{B:Nat}{ty:TypeId}{v:Value}{L:List α}(h:OwnE E Z w B ty v L)(h0:0<L.length):∃ g cap,v=.slice (some ⟨g,0,none⟩) L.length cap/\B<=g/\g<w.heap.size/\L.length<=cap:=by
 obtain ⟨CS,h1,h2,h3⟩:=h
 rcases h1.2 with ⟨e,hz⟩ | ⟨g,cap,cur,rfl,hB,hg,IR,_⟩
 ·omega
 ·exact ⟨g,cap,rfl,hB,(Array.getElem?_eq_some_iff.1 hg).1,IR⟩
theorem Af(w:World)(a0 a1 a2 a3 a4 x0 x1:Value):∃ W,W=((w.alloc (.cells #[a0,a1,a2,a3,a4] 43)).alloc (.cells #[x0,x1] 104)).alloc (.cells #[Value.slice none 0 0,.int .i64 0,.int .i64 0,.bool false,.bool false] 43) /\
  Has W w.heap.size [a0,a1,a2,a3,a4] 43/\Has W (w.heap.size+1) [x0,x1] 104/\Has W (w.heap.size+2) [Value.slice none 0 0,.int .i64 0,.int .i64 0,.bool false,.bool false] 43/\Below w.heap.size w W/\W.heap.size=w.heap.size+3:=by
 refine ⟨_,rfl,((Has.new w _ _).alloc _).alloc _,?_,?_,((AU _ _).alloc (by simp) _).alloc (by simp <;> omega) _,by simp⟩
 ·have:=Has.new (w.alloc (.cells #[a0,a1,a2,a3,a4] 43)) [x0,x1] 104;exact Has.alloc (by simpa using this) _
 ·have:=Has.new ((w.alloc (.cells #[a0,a1,a2,a3,a4] 43)).alloc (.cells #[x0,x1] 104)) [Value.slice none 0 0,.int .i64 0,.int .i64 0,.bool false,.bool false] 43
  simpa using this
theorem mb(Z:an)(v:Value)(Ls:List Ln)(r c:Int)(pd au:Bool)(i:Nat)(cv:Value)(L:List Cl)(b:Bool)(w:World)(hv:HeldE lineE Z w v Ls)(hc:HeldE cellE Z w cv L)(hZ:∀ b,Z b->b<w.heap.size)(hi:i<Ls.length)(hl:Ls.length<=1000):Calls Tryz.prog 171 #[.agg #[v,.int .i64 r,.int .i64 c,.bool pd,.bool au],.int .i64 i,.agg #[cv,.bool b]] w (qo Z w (Ls.set i (L,b)) r c pd au):=by
 obtain ⟨ao,ca,rfl⟩:=hv.len;obtain ⟨co,cc,rfl⟩:=hc.len;obtain ⟨W,hW,hb,hx,hr,hl0,hs⟩:=Af w (.slice ao Ls.length ca) (.int .i64 r) (.int .i64 c) (.bool pd) (.bool au) (.slice co L.length cc) (.bool b);have hb3:=AU W (.cells #[] 104);have BX:=OwnE.lit (B:=W.heap.size) (ty:=104) (Z:=Z) W lineE [] [] 0 rfl rfl (Nat.le_refl _) (by decide) (fun i hi=>absurd hi (Nat.not_lt_zero _)) #[] rfl;have HB:=ab (hb.below hb3 hb.lt);have HX:=ab (hx.below hb3 hx.lt);have HR:=ab (hr.below hb3 hr.lt);have HL:=ab (hl0.trans (hb3.mono hl0.size));have HO:=ab BX;have hap:∀ x,Z x->(Value.slice (some ⟨W.heap.size,0,none⟩) 0 0).ownBlock≠some x:=fun x hz e=>by
  have:=hZ x hz;have e2:W.heap.size=x:=by simpa [Value.ownBlock] using e
  omega
 have HV:=ab (show HeldE lineE (fun x=>Z x/\(Value.slice (some ⟨W.heap.size,0,none⟩) 0 0).ownBlock≠some x) (W.alloc (.cells #[] 104)) (.slice ao Ls.length ca) Ls from (hv.below HL.out).zone fun x _ hz=>⟨hz,hap x hz⟩);have HC:=ab (hc.below HL.out);have Bf:=ab (show W.heap.size<=(W.alloc (.cells #[] 104)).heap.size from hb3.size);have q0:=HB.out.cell 0 _ rfl;have HS:=ab hs;have HZ:=ab hZ;obtain ⟨n,hn⟩:=ae (Ls.length);have HN:=ab hn;obtain ⟨m,hm⟩:=ae (L.length);rw [<-hn] at hW HB HV q0 hi hl ⊢;rw [<-hm] at hW HX HC ⊢;clear hv hc hb hx hr hl0 hb3 BX hap hs hZ hn hm
 go_enter Tryz.func171,Tryz.ntmps171
 go_upto_region 1 with (fail)
 rw [<-hW];clear hW
 go_wp2_with (at_builtin;refine ax (E:=lineE) (Z:=Z) rfl (.tmp 7) (.tmp 9) 22 rfl (.agg #[.slice none 0 0,.bool false]) 32 Tryz.underlying22 bS rfl (by decide) rfl rfl HO.out HV.out (by have:=HN.out;simp only [List.length_nil];omega) (by have:=HN.out;simp only [List.length_nil];omega) Bf.out ?_)
 intro v2 wn BE b2 k2 h4;obtain ⟨g2,n2,rfl,NJ,hg2,EZ⟩:=uT BE (by have:=HN.out;omega);rw [<-HN.out] at BE EZ ⊢;have hb2:=HB.out.below b2 (by have:=HS.out;omega);have HX2:=ab (HX.out.below b2 (by have:=HS.out;omega));have Pp:=ab (HR.out.below b2 (by have:=HS.out;omega));have DV:=(Upd.refl (fun x=>x=w.heap.size) wn).setCell (p:=⟨w.heap.size,0,none⟩) (.inl rfl) (.slice (some ⟨g2,0,none⟩) n n2);have FQ:=ab (OwnE.upd BE DV (fun x hx e=>by
  have:=HS.out
  rcases hx with hx | hx
  ·have:=HZ.out x hx;omega
  ·have e2:g2=x:=by simpa [Value.ownBlock] using hx
   omega))
 have CJ:=ab (show Has (wn.setCell ⟨w.heap.size,0,none⟩ (.slice (some ⟨g2,0,none⟩) n n2)) w.heap.size [.slice (some ⟨g2,0,none⟩) n n2,.int .i64 r,.int .i64 c,.bool pd,.bool au] 43 from hb2.set 0 _);have PS:=ab (DV.keep.has HX2.out (fun e=>by omega));have Lc:=ab (DV.keep.has Pp.out (fun e=>by omega));have Dz:Below w.heap.size w wn:=HL.out.trans (b2.mono (by have:=HS.out;omega));have C5:=ab (Dz.trans (((Upd.refl (fun b=>w.heap.size<=b) wn).setCell (p:=⟨w.heap.size,0,none⟩) (.inl (Nat.le_refl _)) (.slice (some ⟨g2,0,none⟩) n n2)).below Dz.size fun _ e=>e));have Po:=ab ((HC.out.kept ((KeepZ.below b2).mono fun x _ hz=>by have:=HZ.out x hz;have:=HS.out;omega)).upd DV (fun x hx e=>by have:=HZ.out x hx;omega));have f0:=hb2.free 0;have p0:=hb2.cell 0 _ rfl;obtain ⟨W3,hW3⟩:=ae (wn.setCell ⟨w.heap.size,0,none⟩ (.slice (some ⟨g2,0,none⟩) n n2));rw [<-hW3] at FQ CJ PS Lc C5 Po;have F3:=ab EZ;have BY:=ab (show w.heap.size+3<=g2 from by have:=HS.out;omega);clear BE hb2 b2 k2 h4 NJ hg2 EZ DV Dz HX2 Pp HO HV HX HR HB HC Bf HL q0
 go_upto_region 2 with (fail)
 rw [<-hW3];clear hW3 f0 p0;have c0:=CJ.out.cell 0 _ rfl;have x0:=PS.out.cell 0 _ rfl;have x1:=PS.out.cell 1 _ rfl;have O6:(i:Int)<(n:Int):=by omega
 go_wp2_with (refine eP (E:=lineE) (Y:=Z) (i:=i) rfl 104 (.tmp 16) (.tmp 15) rfl rfl rfl [.slice co m cc,.bool b] rfl (by kernel_rfl) FQ.out.each (by rw [<-HN.out];exact hi) (L,b) (line_rep.2 ⟨_,rfl,Po.out.zone fun x _ hz=>⟨hz,fun e=>by have:=HZ.out x hz;have:=BY.out;omega⟩⟩) ?_)
 intro w5 Dd El;have GD:=Dd.all (Z:=Z) (fun j x _ _ hz=>hz);have Eh:=ab GD;have CY:=El.keep.has CJ.out (fun e=>by have:=BY.out;omega);have D6:=El.keep.has Lc.out (fun e=>by have:=BY.out;omega);have Lj:Below w.heap.size w w5:=C5.out.trans (El.below C5.out.size fun x e=>by have:=BY.out;omega);clear Dd GD c0 x0 x1;have c0:=CY.cell 0 _ rfl;have c1:=CY.cell 1 _ rfl;have c2:=CY.cell 2 _ rfl;have c3:=CY.cell 3 _ rfl;have c4:=CY.cell 4 _ rfl;have k0:=D6.cell 0 _ rfl;have k1:=D6.cell 1 _ rfl;have k2:=D6.cell 2 _ rfl;have k3:=D6.cell 3 _ rfl;have k4:=D6.cell 4 _ rfl;have g0:=D6.free 0;have g1:=D6.free 1;have g2':=D6.free 2;have g3:=D6.free 3;have g4:=D6.free 4;have hlt:=D6.lt;have hbl:=iC (g:=w.heap.size+2) Lj (by omega) (.slice (some ⟨g2,0,none⟩) n n2) (.int .i64 r) (.int .i64 c) (.bool pd) (.bool au);have hue:=(((((Upd.refl (fun x=>x=w.heap.size+2) w5).setCell (p:=⟨w.heap.size+2,0,none⟩) (.inl rfl) (.slice (some ⟨g2,0,none⟩) n n2)).setCell (p:=⟨w.heap.size+2,1,none⟩) (.inl rfl) (.int .i64 r)).setCell (p:=⟨w.heap.size+2,2,none⟩) (.inl rfl) (.int .i64 c)).setCell (p:=⟨w.heap.size+2,3,none⟩) (.inl rfl) (.bool pd)).setCell (p:=⟨w.heap.size+2,4,none⟩) (.inl rfl) (.bool au);have hoe:=OwnE.upd Eh.out hue (fun x hx e=>by
  rcases hx with hx | hx
  ·have:=HZ.out x hx;omega
  ·have e2:g2=x:=by simpa [Value.ownBlock] using hx
   have:=BY.out;omega)
 have E2:=((uv (Y:=fun x=>Z x\/w.heap.size<=x) hoe (fun x _ hz=>.inl hz)).held (fun x hx _=>.inr (by have:=HS.out;omega))).zone (Y:=fun x=>Z x\/(w.heap.size<=x/\x<(((((w5.setCell ⟨w.heap.size+2,0,none⟩ (.slice (some ⟨g2,0,none⟩) n n2)).setCell ⟨w.heap.size+2,1,none⟩ (.int .i64 r)).setCell ⟨w.heap.size+2,2,none⟩ (.int .i64 c)).setCell ⟨w.heap.size+2,3,none⟩ (.bool pd)).setCell ⟨w.heap.size+2,4,none⟩ (.bool au)).heap.size)) (fun x hx hz=>by rcases hz with hz | hz;exact .inl hz;exact .inr ⟨hz,hx⟩);have HF:=ab (And.intro E2 hbl);clear E2 hbl hue hoe CY D6 Lj El;go_wp2;exact bodyPost_ret (v:=.agg #[.slice (some ⟨g2,0,none⟩) n n2,.int .i64 r,.int .i64 c,.bool pd,.bool au]) (by simp [results,Tryz.results171,go_sem,k0,k1,k2,k3,k4]) rfl ⟨_,rfl,HF.out.1,HF.out.2⟩
theorem nt{Z:an}{w:World}{v:Value}{L:List Ln}(h:HeldE lineE Z w v L):∃ ao cap,v=.slice ao L.length cap/\L.length<=cap/\∀ i,i<L.length->∃ b off cv,ao=some ⟨b,off,none⟩/\b<w.heap.size/\Z b/\w.cell? ⟨b,off+i * 2,none⟩=some cv/\w.cell? ⟨b,off+i * 2+1,none⟩=some (.bool (L.getD i zl).2)/\HeldE cellE Z w cv (L.getD i zl).1:=by
 obtain ⟨ao,cap,rfl⟩:=h.len;exact ⟨ao,cap,rfl,(fo h).2.1,(fo h).2.2⟩
theorem aR{W:World}(g:Nat)(a b c d e:Value):Upd (fun x=>x=g) W (((((W.setCell ⟨g,0,none⟩ a).setCell ⟨g,1,none⟩ b).setCell ⟨g,2,none⟩ c).setCell ⟨g,3,none⟩ d).setCell ⟨g,4,none⟩ e) :=
 (((((Upd.refl (fun x=>x=g) W).setCell (p:=⟨g,0,none⟩) (.inl rfl) a).setCell (p:=⟨g,1,none⟩) (.inl rfl) b).setCell (p:=⟨g,2,none⟩) (.inl rfl) c).setCell (p:=⟨g,3,none⟩) (.inl rfl) d).setCell (p:=⟨g,4,none⟩) (.inl rfl) e
theorem cJ{W:World}{g:Nat}{x0 x1 x2 x3 x4:Value}(h:Has W g [x0,x1,x2,x3,x4] 43)(a b c d e:Value):Has (((((W.setCell ⟨g,0,none⟩ a).setCell ⟨g,1,none⟩ b).setCell ⟨g,2,none⟩ c).setCell ⟨g,3,none⟩ d).setCell ⟨g,4,none⟩ e) g [a,b,c,d,e] 43:=((((h.set 0 a).set 1 b).set 2 c).set 3 d).set 4 e
theorem sO(Z:an)(v:Value)(Ls:List Ln)(r c:Int)(pd au:Bool)(i a:Nat)(pv:Value)(p:List Cl)(w:World)(hv:HeldE lineE Z w v Ls)(hp:HeldE cellE Z w pv p)(hZ:∀ b,Z b->b<w.heap.size)(hi:i<Ls.length)(hl:Ls.length<=1000)(h0:0<(Ls.getD i zl).1.length)(h1:(Ls.getD i zl).1.length<=1024)(hle:a+p.length<=(Ls.getD i zl).1.length) :
  Calls Tryz.prog 143 #[.agg #[v,.int .i64 r,.int .i64 c,.bool pd,.bool au],.int .i64 i,.int .i64 a,pv] w (qo Z w (cK Ls i a p) r c pd au):=by
 obtain ⟨ao,ca,rfl,Cd,hc⟩:=nt hv;obtain ⟨b,off,cv,rfl,De,_,z0,z1,hz0⟩:=hc i hi;obtain ⟨co,cc,rfl⟩:=hz0.len;obtain ⟨po,pc,rfl⟩:=hp.len;obtain ⟨pn,Kb⟩:=ae (p.length);have hpl:cK Ls i a p=Ls.set i (aN (Ls.getD i zl).1 p a,(Ls.getD i zl).2 && !a8 (Ls.getD i zl).1 p a):=rfl;obtain ⟨⟨L,q⟩,hLq⟩ : ∃ y,y=Ls.getD i zl:=⟨_,rfl⟩;rw [<-hLq] at z0 z1 hz0 h0 h1 hle hpl;simp only at z0 z1 hz0 h0 h1 hle hpl;obtain ⟨W,hW,hb,hr,hl0⟩:=gF w (.slice (some ⟨b,off,none⟩) Ls.length ca) (.int .i64 r) (.int .i64 c) (.bool pd) (.bool au) (.slice none 0 0) (.int .i64 0) (.int .i64 0) (.bool false) (.bool false);have hs:W.heap.size=w.heap.size+2:=by rw [hW];simp
 have HB:=ab hb;have HR:=ab hr;have HL:=ab hl0;have HS:=ab hs;have HZ:=ab hZ;have LR:=ab (show b<W.heap.size from by omega);have Z0:=ab ((hl0.cell (p:=⟨b,off+i * 2,none⟩) De).trans z0);have Z1:=ab ((hl0.cell (p:=⟨b,off+i * 2+1,none⟩) De).trans z1);have HV:=ab (hv.below hl0);have JY:=ab (show ∀ w':World,Below W.heap.size W w'->Calls Tryz.prog 195 #[.slice co L.length cc,.bool q,.int .i64 a,.slice po p.length pc] w' (sL (fun x=>Z x\/W.heap.size<=x) w' (aN L p a) (q && !a8 L p a)) from fun w' hb'=>qj (fun x=>Z x\/W.heap.size<=x) (.slice co L.length cc) (.slice po p.length pc) L p q a w' (fun x hx=>.inr (Nat.le_trans hb'.size hx)) (((hz0.below hl0).below hb').zone fun x _ hz=>.inl hz) (((hp.below hl0).below hb').zone fun x _ hz=>.inl hz) h0 (by omega) hle);have Jb:=ab hpl;have NV:=ab (bR L p a);have Ly:=ab (fun (w':World) (v':Value) (q':Bool) (hb':Below W.heap.size W w') (hc':HeldE cellE (fun x=>Z x\/(W.heap.size<=x/\x<w'.heap.size)) w' v' (aN L p a))=>mb (fun x=>Z x\/(W.heap.size<=x/\x<w'.heap.size)) (.slice (some ⟨b,off,none⟩) Ls.length ca) Ls r c pd au i v' (aN L p a) q' w' (((hv.below hl0).below hb').zone fun x _ hz=>.inl hz) hc' (fun x hx=>by have:=hb'.size;rcases hx with hx | hx;have:=hZ x hx;omega;omega) hi hl);obtain ⟨n,hn⟩:=ae (Ls.length);obtain ⟨ln,DA⟩:=ae (L.length);rw [<-DA] at JY Z0 h0 h1 hle;rw [<-hn] at hW HB Ly Cd hi hl;rw [<-Kb] at JY hle;rw [<-hn,<-Kb];obtain ⟨qq,Py⟩:=ae ((q && !a8 L p a));rw [<-Py] at JY hpl;obtain ⟨PL,hPL⟩:=ae (aN L p a);rw [<-hPL] at JY Ly hpl;rw [hpl];have O6:(i:Int)<(n:Int):=by omega
 clear hv hc hz0 hp hb hr hl0 hs hZ De z0 z1 hLq hn DA Kb Jb hpl Py hPL NV
 go_enter Tryz.func143,Tryz.ntmps143
 go_upto_region 1 with (fail)
 rw [<-hW];clear hW;obtain ⟨AZ,A6⟩ : ∃ CC:Array Bool->World->Prop,CC=fun L8 w'=>Below W.heap.size W w':=⟨_,rfl⟩
 obtain ⟨BA,Bh,Bm,Bl⟩:=Reg.xB;obtain ⟨Bw,Bn,A2,A3,A4,A5,Bc,A9,Ba,A1,A7,Be,A0,Bg,Bk,Bj,Bq,Bo,Bs,CE,Cz,CD⟩:=Reg.e20 BA
  (fun xx _=>xx=.pointer (some ⟨w.heap.size,0,none⟩))
  (fun xx _=>xx=.slice (some ⟨b,off,none⟩) n ca)
  (fun xx _=>xx=.int .i64 i)
  (fun xx _=>xx=.pointer (some ⟨b,off+i * 2,none⟩))
  (fun xx _=>xx=.pointer (some ⟨b,off+i * 2,none⟩))
  (fun xx _=>xx=.slice co ln cc)
  (fun xx _=>xx=.pointer (some ⟨w.heap.size,0,none⟩))
  (fun xx _=>xx=.slice (some ⟨b,off,none⟩) n ca)
  (fun xx _=>xx=.int .i64 i)
  (fun xx _=>xx=.pointer (some ⟨b,off+i * 2,none⟩))
  (fun xx _=>xx=.pointer (some ⟨b,off+i * 2+1,none⟩))
  (fun xx _=>xx=.bool q)
  (fun xx _=>xx=.int .i64 a)
  (fun xx _=>xx=.slice po pn pc)
  (fun x w'=>∃ v',x=.tuple #[v',.bool qq]/\HeldE cellE (fun x=>Z x\/W.heap.size<=x) w' v' PL)
  (fun x w'=>∃ v',x=.tuple #[v',.bool qq]/\HeldE cellE (fun x=>Z x\/W.heap.size<=x) w' v' PL)
  (fun x w'=>HeldE cellE (fun x=>Z x\/W.heap.size<=x) w' x PL)
  (fun xx _=>xx=.bool qq)
  (fun x w'=>HeldE cellE (fun x=>Z x\/W.heap.size<=x) w' x PL)
  (fun xx _=>xx=.bool qq)
  (s14:=fun x w w1 hx h=>by rw [Bh] at hx;first | exact HeldE.below h hx | (obtain ⟨v',e,h⟩:=h;exact ⟨v',e,HeldE.below h hx⟩))
  (s15:=fun x w w1 hx h=>by rw [Bh] at hx;first | exact HeldE.below h hx | (obtain ⟨v',e,h⟩:=h;exact ⟨v',e,HeldE.below h hx⟩))
  (s16:=fun x w w1 hx h=>by rw [Bh] at hx;first | exact HeldE.below h hx | (obtain ⟨v',e,h⟩:=h;exact ⟨v',e,HeldE.below h hx⟩))
  (s18:=fun x w w1 hx h=>by rw [Bh] at hx;first | exact HeldE.below h hx | (obtain ⟨v',e,h⟩:=h;exact ⟨v',e,HeldE.below h hx⟩))
 have Bd:Hid (∀ i L w, AZ L w->AZ (L.setIfInBounds i true) w):=ab (by
  intro i L w h;rw [A6] at h ⊢;exact h)
 have Bv:Hid (∀ L w w1,AZ L w->Below w.heap.size w w1->AZ L w1):=ab (by
  intro L w w1 h hb;rw [A6] at h ⊢;exact h.trans (hb.mono h.size))
 have By:=ab (show AZ (Array.replicate 20 false) W.drew from by rw [A6];exact (Below.refl _ _).drew);have AX:=ab (fun (i:Nat) L w v (h:AZ L w) (e:Bw i v w)=>Reg.hk (Bd.out i L w h) e (Bm.out w));have AW:=ab A6;have Bi:=ab Bh;clear A6 Bh
 go_wp2_with fail
 refine Reg.regionF Bw AZ BA Bn.out (by kernel_rfl) (by kernel_rfl) (by kernel_rfl) By.out (fun GC AV=>?_);simp only [Reg.frame,Reg.dsts,List.map_cons,List.map_nil,Mix.put_lit,List.set_cons_succ,List.set_cons_zero,Nat.zero_add,Nat.reduceAdd] at AV;refine ⟨⟨?_,?_,?_,?_,?_,?_,?_,?_,?_,?_,?_,?_,?_,?_,?_,?_,?_,?_,?_,?_,trivial⟩,?_⟩
 ·intro Lq wq xq hh;simp only [AV];refine Reg.go rfl ?_;have HK:=AX.out 0 _ _ _ hh.cls ((A2.out _ _).mpr rfl);go_simp;exact HK.out
 ·intro Lq wq xq hh;simp only [AV,(A2.out _ _).mp (hh.v 0)];refine Reg.go rfl ?_;have hc:AZ Lq wq:=hh.cls;rw [AW.out] at hc;have q0:=(HB.out.below hc HB.out.lt).cell 0 _ rfl;clear hc;have HK:=AX.out 1 _ _ _ hh.cls ((A3.out _ _).mpr rfl);go_simp;exact HK.out
 ·intro Lq wq xq hh;simp only [AV];refine Reg.go rfl ?_;have HK:=AX.out 2 _ _ _ hh.cls ((A4.out _ _).mpr rfl);go_simp;exact HK.out
 ·intro Lq wq xq hh;simp only [AV,(A3.out _ _).mp (hh.v 1),(A4.out _ _).mp (hh.v 2)];refine Reg.go rfl ?_;have HK:=AX.out 3 _ _ _ hh.cls ((A5.out _ _).mpr rfl);go_simp;exact HK.out
 ·intro Lq wq xq hh;simp only [AV,(A5.out _ _).mp (hh.v 3)];refine Reg.go rfl ?_;have HK:=AX.out 4 _ _ _ hh.cls ((Bc.out _ _).mpr rfl);go_simp;exact HK.out
 ·intro Lq wq xq hh;simp only [AV,(Bc.out _ _).mp (hh.v 4)];refine Reg.go rfl ?_;have hc:AZ Lq wq:=hh.cls;rw [AW.out] at hc;have q0:=(hc.cell (p:=⟨b,off+i * 2,none⟩) LR.out).trans Z0.out;clear hc;have HK:=AX.out 5 _ _ _ hh.cls ((A9.out _ _).mpr rfl);go_simp;exact HK.out
 ·intro Lq wq xq hh;simp only [AV];refine Reg.go rfl ?_;have HK:=AX.out 6 _ _ _ hh.cls ((Ba.out _ _).mpr rfl);go_simp;exact HK.out
 ·intro Lq wq xq hh;simp only [AV,(Ba.out _ _).mp (hh.v 6)];refine Reg.go rfl ?_;have hc:AZ Lq wq:=hh.cls;rw [AW.out] at hc;have q0:=(HB.out.below hc HB.out.lt).cell 0 _ rfl;clear hc;have HK:=AX.out 7 _ _ _ hh.cls ((A1.out _ _).mpr rfl);go_simp;exact HK.out
 ·intro Lq wq xq hh;simp only [AV];refine Reg.go rfl ?_;have HK:=AX.out 8 _ _ _ hh.cls ((A7.out _ _).mpr rfl);go_simp;exact HK.out
 ·intro Lq wq xq hh;simp only [AV,(A1.out _ _).mp (hh.v 7),(A7.out _ _).mp (hh.v 8)];refine Reg.go rfl ?_;have HK:=AX.out 9 _ _ _ hh.cls ((Be.out _ _).mpr rfl);go_simp;exact HK.out
 ·intro Lq wq xq hh;simp only [AV,(Be.out _ _).mp (hh.v 9)];refine Reg.go rfl ?_;have HK:=AX.out 10 _ _ _ hh.cls ((A0.out _ _).mpr rfl);go_simp;exact HK.out
 ·intro Lq wq xq hh;simp only [AV,(A0.out _ _).mp (hh.v 10)];refine Reg.go rfl ?_;have hc:AZ Lq wq:=hh.cls;rw [AW.out] at hc;have q0:=(hc.cell (p:=⟨b,off+i * 2+1,none⟩) LR.out).trans Z1.out;clear hc;have HK:=AX.out 11 _ _ _ hh.cls ((Bg.out _ _).mpr rfl);go_simp;exact HK.out
 ·intro Lq wq xq hh;simp only [AV];refine Reg.go rfl ?_;have HK:=AX.out 12 _ _ _ hh.cls ((Bk.out _ _).mpr rfl);go_simp;exact HK.out
 ·intro Lq wq xq hh;simp only [AV];refine Reg.go rfl ?_;have HK:=AX.out 13 _ _ _ hh.cls ((Bj.out _ _).mpr rfl);go_simp;exact HK.out
 ·intro Lq wq xq hh;simp only [AV,(A9.out _ _).mp (hh.v 5),(Bg.out _ _).mp (hh.v 11),(Bk.out _ _).mp (hh.v 12),(Bj.out _ _).mp (hh.v 13)];refine Reg.go rfl ?_;unfold Reg.upon;have hc:AZ Lq wq:=hh.cls;rw [AW.out] at hc;go_simp;refine (JY.out wq hc).mono ?_;rintro e w2 ⟨v2,rfl,BE,hb2⟩;exact ⟨_,rfl,Bd.out 14 Lq w2 (Bv.out Lq wq w2 hh.cls hb2),(by rw [Bq.out];exact ⟨v2,rfl,BE.held fun x hx _=>.inr (Nat.le_trans hc.size hx)⟩),Bl.out wq w2 hb2⟩
 ·intro Lq wq xq hh;have d14:=(Bq.out _ _).mp (hh.v 14);simp only [AV];refine Reg.go rfl ?_;unfold Reg.upon;go_simp;exact ⟨Bd.out 15 Lq wq hh.cls,(by rw [Bo.out];exact d14),Bm.out _⟩
 ·intro Lq wq xq hh;have d15:=(Bo.out _ _).mp (hh.v 15);simp only [AV];refine Reg.go rfl ?_;unfold Reg.upon;obtain ⟨v9,e9,h9⟩:=d15;rw [e9];go_simp;exact ⟨Bd.out 16 Lq wq hh.cls,(by rw [Bs.out];exact h9),Bm.out _⟩
 ·intro Lq wq xq hh;have d15:=(Bo.out _ _).mp (hh.v 15);simp only [AV];refine Reg.go rfl ?_;unfold Reg.upon;obtain ⟨v9,e9,h9⟩:=d15;rw [e9];go_simp;exact ⟨Bd.out 17 Lq wq hh.cls,(by rw [CE.out]),Bm.out _⟩
 ·intro Lq wq xq hh;have d16:=(Bs.out _ _).mp (hh.v 16);simp only [AV];refine Reg.go rfl ?_;unfold Reg.upon;go_simp;exact ⟨Bd.out 18 Lq wq hh.cls,(by rw [Cz.out];exact d16),Bm.out _⟩
 ·intro Lq wq xq hh;simp only [AV,(CE.out _ _).mp (hh.v 17)];refine Reg.go rfl ?_;have HK:=AX.out 19 _ _ _ hh.cls ((CD.out _ _).mpr rfl);go_simp;exact HK.out
 intro xq DY Bp BD;rw [AW.out] at Bp;simp only [AV];have vrg18:=(Cz.out _ _).mp (BD 18 (by decide));have vrg19:=(CD.out _ _).mp (BD 19 (by decide));rw [vrg19];clear BD AV AX Bd Bm Bn By AW Bi Bv Bl A2 A3 A4 A5 Bc A9 Ba A1 A7 Be A0 Bg Bk Bj Bq Bo Bs CE Cz CD;have hw:=Ly.out DY (xq 18) qq Bp (vrg18.zone fun x hx hz=>by rcases hz with hz | hz;exact .inl hz;exact .inr ⟨hz,hx⟩);obtain ⟨xo,xc,ex⟩:=vrg18.len;rw [ex] at hw ⊢;have hb1:=HB.out.below Bp HB.out.lt;have LG:=ab (HR.out.below Bp HR.out.lt);have LI:=ab Bp;have c0:=hb1.cell 0 _ rfl;have c1:=hb1.cell 1 _ rfl;have c2:=hb1.cell 2 _ rfl;have c3:=hb1.cell 3 _ rfl;have c4:=hb1.cell 4 _ rfl;clear Bp vrg18 vrg19 hb1 ex
 go_wp2_with fail
 refine hw.mono ?_;rintro e w5 ⟨v5,rfl,h5,b5⟩;obtain ⟨o5,p5,ev5⟩:=h5.len;clear c0 c1 c2 c3 c4 hw;have D6:=LG.out.below b5 LG.out.lt;have Lj:Below w.heap.size w w5:=(HL.out.trans (LI.out.mono HL.out.size)).trans (b5.mono (Nat.le_trans HL.out.size LI.out.size));have hs1:=LI.out.size;have k0:=D6.cell 0 _ rfl;have k1:=D6.cell 1 _ rfl;have k2:=D6.cell 2 _ rfl;have k3:=D6.cell 3 _ rfl;have k4:=D6.cell 4 _ rfl;have g0:=D6.free 0;have g1:=D6.free 1;have g2:=D6.free 2;have g3:=D6.free 3;have g4:=D6.free 4;have hlt:=D6.lt;have hbl:=iC (g:=w.heap.size+1) Lj (by omega) v5 (.int .i64 r) (.int .i64 c) (.bool pd) (.bool au);have E2:=(h5.upd (aR (w.heap.size+1) v5 (.int .i64 r) (.int .i64 c) (.bool pd) (.bool au)) (fun x hx e=>by
  have:=HS.out
  rcases hx with (hx | hx) | hx
  ·have:=HZ.out x hx;omega
  ·omega
  ·omega)).zone (Y:=fun x=>Z x\/(w.heap.size<=x/\x<(((((w5.setCell ⟨w.heap.size+1,0,none⟩ v5).setCell ⟨w.heap.size+1,1,none⟩ (.int .i64 r)).setCell ⟨w.heap.size+1,2,none⟩ (.int .i64 c)).setCell ⟨w.heap.size+1,3,none⟩ (.bool pd)).setCell ⟨w.heap.size+1,4,none⟩ (.bool au)).heap.size)) (fun x hlt hx=>by
  have:=HS.out
  rcases hx with (hx | hx) | hx
  ·exact .inl hx
  ·exact .inr ⟨by omega,hlt⟩
  ·exact .inr ⟨by omega,hlt⟩)
 have HF:=ab (And.intro E2 hbl);clear E2 hbl D6 Lj h5 b5;rw [List.length_set] at ev5;subst ev5;go_wp2;exact bodyPost_ret (v:=.agg #[.slice o5 Ls.length p5,.int .i64 r,.int .i64 c,.bool pd,.bool au]) (by simp [results,Tryz.results143,go_sem,k0,k1,k2,k3,k4]) rfl ⟨_,rfl,HF.out.1,HF.out.2⟩
theorem ib(Z:an)(v:Value)(Ls:List Ln)(r c:Int)(pd au:Bool)(w:World)(wd:Nat)(hv:HeldE lineE Z w v Ls)(hZ:∀ b,Z b->b<w.heap.size)(Cc:Even Ls wd)(r2 c2:Nat)(hr2:inI r (ay Ls.length)=(r2:Int))(hc2:inI c (ay wd)=(c2:Int))(hlt:r2<Ls.length) :
  Calls Tryz.prog 162 #[.agg #[v,.int .i64 r,.int .i64 c,.bool pd,.bool au]] w (qo Z w (dD Ls r2) (aW Ls r2:Nat) c2 false au):=by
 obtain ⟨ao,ca,rfl⟩:=hv.len;obtain ⟨W,hW,hb,hr,hl0⟩:=gF w (.slice ao Ls.length ca) (.int .i64 r) (.int .i64 c) (.bool pd) (.bool au) (.slice none 0 0) (.int .i64 0) (.int .i64 0) (.bool false) (.bool false);have hs:W.heap.size=w.heap.size+2:=by rw [hW];simp
 have HV:=ab (hv.below hl0);have HH:=ab (iu Z (.slice ao Ls.length ca) Ls r c pd au W (hv.below hl0) Cc.1 wd (Cc.2.2.2.2 0 Cc.1));rw [hr2,hc2] at HH;obtain ⟨pd2,IK⟩:=ae (cI c pd wd);rw [<-IK] at HH;have HB:=ab hb;have HR:=ab hr;have HL:=ab hl0;have HS:=ab hs;have HZ:=ab hZ;have Ju:=ab Cc;obtain ⟨n,hn⟩:=ae (Ls.length);have HN:=ab hn;rw [<-hn] at hW hb HB HH HV hlt ⊢;have c0:=hb.cell 0 _ rfl;have c1:=hb.cell 1 _ rfl;have c2':=hb.cell 2 _ rfl;have c3:=hb.cell 3 _ rfl;have c4:=hb.cell 4 _ rfl;have hn1000:n<=1000:=by have:=Cc.2.1;omega
 clear hv hZ Cc hr2 hc2 hb hr hl0 hs IK hn
 go_enter Tryz.func162,Tryz.ntmps162
 go_upto_region 1 with (fail)
 rw [<-hW];clear hW
 go_wp2_with fail
 refine HH.out.mono ?_;rintro e w1 ⟨rfl,b1⟩;clear c0 c1 c2' c3 c4;have h1:=HB.out.below b1 HB.out.lt;have r1:=HR.out.below b1 HR.out.lt;have l1:Below w.heap.size w w1:=HL.out.trans (b1.mono HL.out.size);have hs1:=b1.size;have c0:=h1.cell 0 _ rfl;have c1:=h1.cell 1 _ rfl;have c2':=h1.cell 2 _ rfl;have c3:=h1.cell 3 _ rfl;have c4:=h1.cell 4 _ rfl;have f0:=h1.free 0;have f1:=h1.free 1;have f2:=h1.free 2;have f3:=h1.free 3;have f4:=h1.free 4;have hv2:=((HV.out.below b1).upd (aR w.heap.size (.slice ao n ca) (.int .i64 r2) (.int .i64 c2) (.bool pd2) (.bool au)) (fun x hx e=>by have:=HZ.out x hx;omega));have h2:=cJ h1 (.slice ao n ca) (.int .i64 r2) (.int .i64 c2) (.bool pd2) (.bool au);have r2':=(aR (W:=w1) w.heap.size (.slice ao n ca) (.int .i64 r2) (.int .i64 c2) (.bool pd2) (.bool au)).keep.has r1 (fun e=>by omega);have l2:=iC (g:=w.heap.size) l1 (Nat.le_refl _) (.slice ao n ca) (.int .i64 r2) (.int .i64 c2) (.bool pd2) (.bool au);have hsz2:=(aR (W:=w1) w.heap.size (.slice ao n ca) (.int .i64 r2) (.int .i64 c2) (.bool pd2) (.bool au)).size;obtain ⟨W2,hW2⟩:=ae ((((((w1.setCell ⟨w.heap.size,0,none⟩ (.slice ao n ca)).setCell ⟨w.heap.size,1,none⟩ (.int .i64 r2)).setCell ⟨w.heap.size,2,none⟩ (.int .i64 c2)).setCell ⟨w.heap.size,3,none⟩ (.bool pd2)).setCell ⟨w.heap.size,4,none⟩ (.bool au)));rw [<-hW2] at hv2 h2 r2' l2 hsz2;have DV:=(Upd.refl (fun x=>x=w.heap.size) W2).setCell (p:=⟨w.heap.size,3,none⟩) (.inl rfl) (.bool false);have Qk:=ab (hv2.upd DV (fun x hx e=>by have:=HZ.out x hx;omega));have CJ:=ab (show Has (W2.setCell ⟨w.heap.size,3,none⟩ (.bool false)) w.heap.size [.slice ao n ca,.int .i64 r2,.int .i64 c2,.bool false,.bool au] 43 from h2.set 3 _);have Lc:=ab (DV.keep.has r2' (fun e=>by omega));have C5:=ab (l2.trans (((Upd.refl (fun b=>w.heap.size<=b) W2).setCell (p:=⟨w.heap.size,3,none⟩) (.inl (Nat.le_refl _)) (.bool false)).below l2.size fun _ e=>e));have LK:=ab (show w.heap.size+2<=(W2.setCell ⟨w.heap.size,3,none⟩ (.bool false)).heap.size from by have:=DV.size;have:=HS.out;omega);have p3:=h2.cell 3 _ rfl;have s3:=h2.free 3;clear h1 r1 l1 hv2 h2 r2' l2 DV b1 HB HR HV HL
 go_upto_region 2 with (fail)
 rw [<-hW2];clear c0 c1 c2' c3 c4 f0 f1 f2 f3 f4 hW2
 go_upto_region 3 with (fail)
 obtain ⟨W3,hW3⟩:=ae (W2.setCell ⟨w.heap.size,3,none⟩ (.bool false));rw [<-hW3] at Qk CJ Lc C5 LK ⊢;clear hW3 p3 s3;have q0:=CJ.out.cell 0 _ rfl;have q1:=CJ.out.cell 1 _ rfl;have s0:=CJ.out.free 0;have s1:=CJ.out.free 1
 by_cases hm:r2+1<n
 ·have g1:decide ((r2:Int)+1<(n:Int))=true:=ah (by omega);have hwr:IntKind.i64.wrap ((r2:Int)+1)=(r2:Int)+1:=by rw [IntKind.wrap_i64];omega
  have HE:=ab (ke (show r2+1<Ls.length from by rw [<-HN.out];exact hm));have Fh:=(Upd.refl (fun x=>x=w.heap.size) W3).setCell (p:=⟨w.heap.size,1,none⟩) (.inl rfl) (.int .i64 ((r2:Int)+1));have LC:=ab (Qk.out.upd Fh (fun x hx e=>by have:=HZ.out x hx;omega));have hb4:=(show Has (W3.setCell ⟨w.heap.size,1,none⟩ (.int .i64 ((r2:Int)+1))) w.heap.size [.slice ao n ca,.int .i64 ((r2:Int)+1),.int .i64 c2,.bool false,.bool au] 43 from CJ.out.set 1 _);have hr4:=Fh.keep.has Lc.out (fun e=>by omega);have hl4:=C5.out.trans (((Upd.refl (fun b=>w.heap.size<=b) W3).setCell (p:=⟨w.heap.size,1,none⟩) (.inl (Nat.le_refl _)) (.int .i64 ((r2:Int)+1))).below C5.out.size fun _ e=>e);have Ep:=ab hb4;have N1:=ab hr4;have Od:=ab hl4;clear hb4 hr4 hl4 Fh hm
  go_upto_region 5 with (fail)
  obtain ⟨W4,IU⟩:=ae (W3.setCell ⟨w.heap.size,1,none⟩ (.int .i64 ((r2:Int)+1)));rw [<-IU] at LC Ep N1 Od ⊢;clear IU q0 q1 s0 s1;have hb4:=Ep.out;have hr4:=N1.out;have c0:=hb4.cell 0 _ rfl;have c1:=hb4.cell 1 _ rfl;have c2':=hb4.cell 2 _ rfl;have c3:=hb4.cell 3 _ rfl;have c4:=hb4.cell 4 _ rfl;have k0:=hr4.cell 0 _ rfl;have k1:=hr4.cell 1 _ rfl;have k2:=hr4.cell 2 _ rfl;have k3:=hr4.cell 3 _ rfl;have k4:=hr4.cell 4 _ rfl;have g0:=hr4.free 0;have g1:=hr4.free 1;have g2:=hr4.free 2;have g3:=hr4.free 3;have g4:=hr4.free 4;have hlt:=hr4.lt;have hbl:=iC (g:=w.heap.size+1) Od.out (by omega) (.slice ao n ca) (.int .i64 ((r2:Int)+1)) (.int .i64 c2) (.bool false) (.bool au);have E2:=((LC.out).upd (aR (w.heap.size+1) (.slice ao n ca) (.int .i64 ((r2:Int)+1)) (.int .i64 c2) (.bool false) (.bool au)) (fun x hx e=>by
   have:=HS.out;have:=HZ.out x hx;omega)).zone (Y:=fun x=>Z x\/(w.heap.size<=x/\x<(((((W4.setCell ⟨w.heap.size+1,0,none⟩ (.slice ao n ca)).setCell ⟨w.heap.size+1,1,none⟩ (.int .i64 ((r2:Int)+1))).setCell ⟨w.heap.size+1,2,none⟩ (.int .i64 c2)).setCell ⟨w.heap.size+1,3,none⟩ (.bool false)).setCell ⟨w.heap.size+1,4,none⟩ (.bool au)).heap.size)) (fun x hlt hx=>by
   have:=HS.out;exact .inl hx)
  have HF:=ab (And.intro E2 hbl);clear E2 hbl;go_wp2;exact bodyPost_ret (v:=.agg #[.slice ao n ca,.int .i64 ((r2:Int)+1),.int .i64 c2,.bool false,.bool au]) (by simp [results,Tryz.results162,go_sem,k0,k1,k2,k3,k4]) rfl ⟨.slice ao n ca,by rw [HE.out.2,show ((r2+1:Nat):Int)=(r2:Int)+1 from by omega],by rw [HE.out.1];exact HF.out.1,HF.out.2⟩
 ·have g1:decide ((r2:Int)+1<(n:Int))=false:=ai (by omega);have hwr:IntKind.i64.wrap ((r2:Int)+1)=(r2:Int)+1:=by rw [IntKind.wrap_i64];omega
  have HE:=ab (lS (show ¬ r2+1<Ls.length from by rw [<-HN.out];exact hm));have Qb:=ut (.slice ao n ca) Z Ls 0 n 1 true W3 Qk.out (fun b hb=>by have:=HZ.out b hb;have:=LK.out;omega) Ju.out.2.1 Ju.out.short;rw [HN.out] at Qb;rw [HN.out] at q0 g1 ⊢
  go_wp2_with fail
  refine Qb.mono ?_;rintro e w5 ⟨v5,rfl,h5,b5⟩;obtain ⟨o5,p5,ev5⟩:=h5.len;rw [jx] at ev5;subst ev5;have CY:=CJ.out.below b5 CJ.out.lt;have D6:=Lc.out.below b5 Lc.out.lt;have Lj:=C5.out.trans (b5.mono C5.out.size);have Qh:=(Upd.refl (fun x=>x=w.heap.size) w5).setCell (p:=⟨w.heap.size,0,none⟩) (.inl rfl) (.slice o5 Ls.length p5);have Pv:=ab (h5.upd Qh (fun x hx e=>by have:=LK.out;rcases hx with hx | hx;have:=HZ.out x hx;omega;omega));have C8:=ab (show Has (w5.setCell ⟨w.heap.size,0,none⟩ (.slice o5 Ls.length p5)) w.heap.size [.slice o5 Ls.length p5,.int .i64 r2,.int .i64 c2,.bool false,.bool au] 43 from CY.set 0 _);have HR6:=ab (Qh.keep.has D6 (fun e=>by omega));have O5:=ab (Lj.trans (((Upd.refl (fun b=>w.heap.size<=b) w5).setCell (p:=⟨w.heap.size,0,none⟩) (.inl (Nat.le_refl _)) (.slice o5 Ls.length p5)).below Lj.size fun _ e=>e));have s0:=CY.free 0;have q0:=CY.cell 0 _ rfl;clear h5 b5 CY D6 Lj Qh Qb q1 s1
  go_upto_region 7 with (fail)
  obtain ⟨W6,Nz⟩:=ae (w5.setCell ⟨w.heap.size,0,none⟩ (.slice o5 Ls.length p5));rw [<-Nz] at Pv C8 HR6 O5 ⊢;clear Nz q0 s0;have hs3:=LK.out;have BF:=C8.out;have Eo:=HR6.out;have c0:=BF.cell 0 _ rfl;have c1:=BF.cell 1 _ rfl;have c2':=BF.cell 2 _ rfl;have c3:=BF.cell 3 _ rfl;have c4:=BF.cell 4 _ rfl;have k0:=Eo.cell 0 _ rfl;have k1:=Eo.cell 1 _ rfl;have k2:=Eo.cell 2 _ rfl;have k3:=Eo.cell 3 _ rfl;have k4:=Eo.cell 4 _ rfl;have g0:=Eo.free 0;have g1:=Eo.free 1;have g2:=Eo.free 2;have g3:=Eo.free 3;have g4:=Eo.free 4;have hlt:=Eo.lt;have hbl:=iC (g:=w.heap.size+1) O5.out (by omega) (.slice o5 Ls.length p5) (.int .i64 r2) (.int .i64 c2) (.bool false) (.bool au);have E2:=((Pv.out).upd (aR (w.heap.size+1) (.slice o5 Ls.length p5) (.int .i64 r2) (.int .i64 c2) (.bool false) (.bool au)) (fun x hx e=>by
   have:=HS.out
   rcases hx with hx | hx;have:=HZ.out x hx;omega;omega)).zone (Y:=fun x=>Z x\/(w.heap.size<=x/\x<(((((W6.setCell ⟨w.heap.size+1,0,none⟩ (.slice o5 Ls.length p5)).setCell ⟨w.heap.size+1,1,none⟩ (.int .i64 r2)).setCell ⟨w.heap.size+1,2,none⟩ (.int .i64 c2)).setCell ⟨w.heap.size+1,3,none⟩ (.bool false)).setCell ⟨w.heap.size+1,4,none⟩ (.bool au)).heap.size)) (fun x hlt hx=>by
   have:=HS.out
   rcases hx with hx | hx;exact .inl hx;exact .inr ⟨by omega,hlt⟩)
  have HF:=ab (And.intro E2 hbl);clear E2 hbl;go_wp2;exact bodyPost_ret (v:=.agg #[.slice o5 Ls.length p5,.int .i64 r2,.int .i64 c2,.bool false,.bool au]) (by simp [results,Tryz.results162,go_sem,k0,k1,k2,k3,k4]) rfl ⟨.slice o5 Ls.length p5,by rw [HE.out.2],by rw [HE.out.1];exact HF.out.1,HF.out.2⟩
theorem sN{r n:Nat}(h:r<n)(hn:n<=1024):inI (r:Int) (ay n)=(r:Int):=by
 have hs:ay n=(n:Int):=by unfold ay;omega
 rw [hs];unfold inI;rw [if_neg (by omega),if_neg (by omega)]
theorem zu{n:Nat}(h:0<n)(hn:n<=1024):inI 0 (ay n)=((0:Nat):Int):=sN (r:=0) h hn
theorem qn(Z:an)(v:Value)(Ls:List Ln)(r:Nat)(c:Int)(pd au:Bool)(w:World)(wd:Nat)(hv:HeldE lineE Z w v Ls)(hZ:∀ b,Z b->b<w.heap.size)(Cc:Even Ls wd)(hlt:r<Ls.length) :
  Calls Tryz.prog 142 #[.agg #[v,.int .i64 r,.int .i64 c,.bool pd,.bool au]] w (qo Z w (goL Ls r) (aW Ls r:Nat) 0 false au):=by
 obtain ⟨ao,ca,rfl,Cd,hc⟩:=nt hv;obtain ⟨b,off,cv,rfl,De,_,z0,z1,hz0⟩:=hc r hlt;obtain ⟨co,cc,rfl⟩:=hz0.len;obtain ⟨W,hW,hb,hr,hl0⟩:=gF w (.slice (some ⟨b,off,none⟩) Ls.length ca) (.int .i64 r) (.int .i64 c) (.bool pd) (.bool au) (.slice none 0 0) (.int .i64 0) (.int .i64 0) (.bool false) (.bool false);have hs:W.heap.size=w.heap.size+2:=by rw [hW];simp
 have HS:=ab hs;have HZ:=ab hZ;have HB:=ab hb;have HR:=ab hr;have HL:=ab hl0;have HEM:=ab (Cc.mark hlt);have Ly:=ab (fun (w':World) (hb':Below W.heap.size W w')=>mb Z (.slice (some ⟨b,off,none⟩) Ls.length ca) Ls r c pd au r (.slice co (Ls.getD r zl).1.length cc) (Ls.getD r zl).1 true w' ((hv.below hl0).below hb') ((hz0.below hl0).below hb') (fun x hx=>by have:=hb'.size;have:=hZ x hx;omega) hlt Cc.2.1);have Oe:=ab (show aW (eO Ls r) r=aW Ls r from by unfold aW;rw [eD]);have Mg:=ab (show r<(eO Ls r).length from by rw [eD];exact hlt);have Gp:=ab (show inI (r:Int) (ay (eO Ls r).length)=(r:Int) from by rw [eD];exact sN hlt (by have:=Cc.2.1;omega));have Ou:=ab (show inI 0 (ay wd)=((0:Nat):Int) from zu Cc.2.2.1 Cc.2.2.2.1);have e5:=aj ((hl0.cell (p:=⟨b,off+r * 2,none⟩) De).trans z0);obtain ⟨n,hn⟩:=ae (Ls.length);have HN:=ab hn;obtain ⟨m,hm⟩:=ae ((Ls.getD r zl).1.length);rw [<-hm] at Ly e5;rw [<-hn] at hW hb HB Ly Cd hlt ⊢;have e0:=aj (hb.cell 0 _ rfl);have e1:=aj (hb.cell 1 _ rfl);have e2:=aj (hb.cell 2 _ rfl);have e3:=aj (hb.cell 3 _ rfl);have e4:=aj (hb.cell 4 _ rfl);have O6:(r:Int)<(n:Int):=by omega
 have hrc:r<ca:=by omega
 clear hv hZ Cc hc hz0 z0 z1 hb hr hl0 hs De hn hm
 go_enter Tryz.func142,Tryz.ntmps142
 go_upto_region 1 with (fail)
 rw [<-hW];clear hW;refine aC 13 (by kernel_rfl) (by simp) (by kernel_rfl) (by kernel_rfl) (by kernel_rfl) (by kernel_rfl) (by kernel_rfl) ?_;simp only [List.take_succ_cons,List.take_zero,List.drop_succ_cons,List.drop_zero]
 repeat (go_big_quiet_step ((fail)))
 refine wpQuiet_nil ?_;intro _ hw';obtain ⟨u,hw''⟩:=hw';subst hw'';obtain ⟨W1,hW1⟩:=ae (ext W u);have Nq:Below W.heap.size W W1:=by rw [hW1];exact u.ok
 have hw:=Ly.out W1 Nq;have Bt:=ab (HB.out.below Nq HB.out.lt);have LG:=ab (HR.out.below Nq HR.out.lt);have F0:=ab (HL.out.trans (Nq.mono HL.out.size));have IP:=ab (show w.heap.size+2<=W1.heap.size from by have:=Nq.size;have:=HS.out;omega);rw [<-hW1];clear Nq hW1 e0 e1 e2 e3 e4 e5
 go_wp2_with fail
 refine hw.mono ?_;rintro e w2 ⟨v2,rfl,h2,b2⟩;rw [show Ls.set r ((Ls.getD r zl).1,true)=eO Ls r from rfl] at h2;obtain ⟨o2,p2,ev2⟩:=h2.len;rw [eD,<-HN.out] at ev2;subst ev2;have h1:=Bt.out.below b2 Bt.out.lt;have r1:=LG.out.below b2 LG.out.lt;have l1:=F0.out.trans (b2.mono F0.out.size);have hs2:=b2.size;have c0:=h1.cell 0 _ rfl;have c1:=h1.cell 1 _ rfl;have c2':=h1.cell 2 _ rfl;have c3:=h1.cell 3 _ rfl;have c4:=h1.cell 4 _ rfl;have f0:=h1.free 0;have f1:=h1.free 1;have f2:=h1.free 2;have f3:=h1.free 3;have f4:=h1.free 4;have hv3:=h2.upd (aR w.heap.size (.slice o2 n p2) (.int .i64 r) (.int .i64 c) (.bool pd) (.bool au)) (fun x hx e=>by have:=IP.out;rcases hx with hx | hx;have:=HZ.out x hx;omega;omega);have h3:=cJ h1 (.slice o2 n p2) (.int .i64 r) (.int .i64 c) (.bool pd) (.bool au);have DV:=aR (W:=w2) w.heap.size (.slice o2 n p2) (.int .i64 r) (.int .i64 c) (.bool pd) (.bool au);have r3:=DV.keep.has r1 (fun e=>by omega);have l3:=iC (g:=w.heap.size) l1 (Nat.le_refl _) (.slice o2 n p2) (.int .i64 r) (.int .i64 c) (.bool pd) (.bool au);have hsz3:=DV.size;obtain ⟨W3,hW3⟩:=ae ((((((w2.setCell ⟨w.heap.size,0,none⟩ (.slice o2 n p2)).setCell ⟨w.heap.size,1,none⟩ (.int .i64 r)).setCell ⟨w.heap.size,2,none⟩ (.int .i64 c)).setCell ⟨w.heap.size,3,none⟩ (.bool pd)).setCell ⟨w.heap.size,4,none⟩ (.bool au)));rw [<-hW3] at hv3 h3 r3 l3 hsz3;obtain ⟨W4,IU,h4,r4,l4,u4⟩:=yb h3 r3 l3 (Nat.le_refl _) (.int .i64 r) (.int .i64 0) (.bool false);have hv4:=hv3.upd u4 (fun x hx e=>by have:=IP.out;rcases hx with hx | hx;have:=HZ.out x hx;omega;omega);have HS4:=ab (show w2.heap.size<=W4.heap.size from by have:=u4.size;omega);have D0:=ab hs2;have q1:=h3.cell 1 _ rfl;have s1:=h3.free 1;have s2:=h3.free 2;have s3:=h3.free 3;have q2:=h3.cell 2 _ rfl;have q3:=h3.cell 3 _ rfl;have GI:=ib (fun x=>Z x\/(W1.heap.size<=x/\x<w2.heap.size)) (.slice o2 n p2) (eO Ls r) r 0 false au W4 wd hv4 (fun x hx=>by have:=HS4.out;have:=D0.out;have:=IP.out;rcases hx with hx | hx;have:=HZ.out x hx;omega;omega) HEM.out r 0 Gp.out Ou.out Mg.out;rw [Oe.out] at GI;have IW:=ab GI;have Ep:=ab h4;have N1:=ab r4;have Od:=ab l4;have KM:=ab IU;clear h1 r1 l1 hv3 h3 r3 l3 u4 hv4 h4 r4 l4 IU GI h2 b2 hw DV HB HR HL Bt LG F0 Ly hs2
 go_upto_region 2 with (fail)
 rw [<-hW3];clear c0 c1 c2' c3 c4 f0 f1 f2 f3 f4 hW3
 go_upto_region 3 with (fail)
 rw [<-KM.out];clear KM q1 q2 q3 s1 s2 s3;have hb4:=Ep.out;have c0:=hb4.cell 0 _ rfl;have c1:=hb4.cell 1 _ rfl;have c2':=hb4.cell 2 _ rfl;have c3:=hb4.cell 3 _ rfl;have c4:=hb4.cell 4 _ rfl;clear hb4
 go_wp2_with fail
 refine IW.out.mono ?_;rintro e w6 ⟨v6,rfl,h6,b6⟩;obtain ⟨o6,p6,ev6⟩:=h6.len;rw [show (dD (eO Ls r) r).length=Ls.length from by rw [fW,eD],<-HN.out] at ev6;subst ev6;have BF:=Ep.out.below b6 Ep.out.lt;have Eo:=N1.out.below b6 N1.out.lt;have hl6:=Od.out.trans (b6.mono Od.out.size);have hs4:=HS4.out;have hs2:=D0.out;have hs1:=IP.out;have Pv:=ab h6;have O5:=ab hl6;clear c0 c1 c2' c3 c4 h6 b6 hl6;have HE:=ab (show goL Ls r=dD (eO Ls r) r/\True from ⟨rfl,trivial⟩);have c0:=BF.cell 0 _ rfl;have c1:=BF.cell 1 _ rfl;have c2':=BF.cell 2 _ rfl;have c3:=BF.cell 3 _ rfl;have c4:=BF.cell 4 _ rfl;have k0:=Eo.cell 0 _ rfl;have k1:=Eo.cell 1 _ rfl;have k2:=Eo.cell 2 _ rfl;have k3:=Eo.cell 3 _ rfl;have k4:=Eo.cell 4 _ rfl;have g0:=Eo.free 0;have g1:=Eo.free 1;have g2:=Eo.free 2;have g3:=Eo.free 3;have g4:=Eo.free 4;have hlt:=Eo.lt;have hbl:=iC (g:=w.heap.size+1) O5.out (by omega) (.slice o6 n p6) (.int .i64 (aW Ls r:Nat)) (.int .i64 0) (.bool false) (.bool au);have E2:=((Pv.out).upd (aR (w.heap.size+1) (.slice o6 n p6) (.int .i64 (aW Ls r:Nat)) (.int .i64 0) (.bool false) (.bool au)) (fun x hx e=>by
  have:=HS.out
  rcases hx with (hx | hx) | hx
  ·have:=HZ.out x hx;omega
  ·omega
  ·omega)).zone (Y:=fun x=>Z x\/(w.heap.size<=x/\x<(((((w6.setCell ⟨w.heap.size+1,0,none⟩ (.slice o6 n p6)).setCell ⟨w.heap.size+1,1,none⟩ (.int .i64 (aW Ls r:Nat))).setCell ⟨w.heap.size+1,2,none⟩ (.int .i64 0)).setCell ⟨w.heap.size+1,3,none⟩ (.bool false)).setCell ⟨w.heap.size+1,4,none⟩ (.bool au)).heap.size)) (fun x hlt hx=>by
  have:=HS.out
  rcases hx with (hx | hx) | hx
  ·exact .inl hx
  ·exact .inr ⟨by omega,hlt⟩
  ·exact .inr ⟨by omega,hlt⟩)
 have HF:=ab (And.intro E2 hbl);clear E2 hbl;go_wp2;exact bodyPost_ret (v:=.agg #[.slice o6 n p6,.int .i64 (aW Ls r:Nat),.int .i64 0,.bool false,.bool au]) (by simp [results,Tryz.results142,go_sem,k0,k1,k2,k3,k4]) rfl ⟨.slice o6 n p6,rfl,by rw [HE.out.1];exact HF.out.1,HF.out.2⟩
section
def RB(w0:World)(Z:an)(gb g2:Nat)(Ls:List Ln)(r c:Int)(pd au:Bool)(o:Option Addr)(k:Nat)(w':World):Prop :=
 Has w' gb [.slice o Ls.length k,.int .i64 r,.int .i64 c,.bool pd,.bool au] 43/\HeldE lineE (fun b=>(Z b\/w0.heap.size<=b)/\b≠gb/\b≠g2) w' (.slice o Ls.length k) Ls/\Has w' g2 [.slice none 0 0,.int .i64 0,.int .i64 0,.bool false,.bool false] 43/\Below w0.heap.size w0 w'/\w0.heap.size<=gb/\w0.heap.size<=g2/\gb≠g2
section
variable {w0 w1 w2 : World} {Z : an} {gb g2 : Nat} {Ls L3 : List Ln} {r c r3 c3 : Int} {pd au pd3 au3 : Bool} {o o' : Option Addr} {k k' : Nat}
theorem RB.below(h:RB w0 Z gb g2 Ls r c pd au o k w1)(hb:Below w1.heap.size w1 w2):RB w0 Z gb g2 Ls r c pd au o k w2 :=
 ⟨h.1.below hb h.1.lt,h.2.1.below hb,h.2.2.1.below hb h.2.2.1.lt,h.2.2.2.1.trans (hb.mono h.2.2.2.1.size),h.2.2.2.2⟩
theorem RB.arg(h:RB w0 Z gb g2 Ls r c pd au o k w1):HeldE lineE (fun b=>((Z b\/w0.heap.size<=b)/\b≠gb/\b≠g2)/\b<w1.heap.size) w1 (.slice o Ls.length k) Ls:=h.2.1.zone fun _ hlt hz=>⟨hz,hlt⟩
theorem RB.own(h:RB w0 Z gb g2 Ls r c pd au o k w1)(hu:Upd (fun b=>b=gb) w1 w2)(hh:Has w2 gb [.slice o Ls.length k,.int .i64 r3,.int .i64 c3,.bool pd3,.bool au3] 43):RB w0 Z gb g2 Ls r3 c3 pd3 au3 o k w2 :=
 ⟨hh,h.2.1.upd hu (fun b hz e=>hz.2.1 e),hu.keep.has h.2.2.1 (fun e=>h.2.2.2.2.2.2 e.symm),h.2.2.2.1.trans (hu.below h.2.2.2.1.size fun b e=>by rw [e];exact h.2.2.2.2.1),h.2.2.2.2⟩
theorem RB.held{w0':World}(h:RB w0 Z gb g2 Ls r c pd au o k w1)(hb:Below w1.heap.size w1 w2)(hu:Upd (fun b=>b=gb) w2 w0')(hv:HeldE lineE (fun b=>(((Z b\/w0.heap.size<=b)/\b≠gb/\b≠g2)/\b<w1.heap.size)\/(w1.heap.size<=b/\b<w2.heap.size)) w2 (.slice o' L3.length k') L3)(hh:Has w0' gb [.slice o' L3.length k',.int .i64 r3,.int .i64 c3,.bool pd3,.bool au3] 43):RB w0 Z gb g2 L3 r3 c3 pd3 au3 o' k' w0':=by
 have h2:=h.below hb;have l1:=h.1.lt;have l2:=h.2.2.1.lt;have l3:=h.2.2.2.1.size;refine ⟨hh,(hv.zone (Y:=fun b=>(Z b\/w0.heap.size<=b)/\b≠gb/\b≠g2) fun b _ hz=>?_).upd hu (fun b hz e=>hz.2.1 e),hu.keep.has h2.2.2.1 (fun e=>h.2.2.2.2.2.2 e.symm),h2.2.2.2.1.trans (hu.below h2.2.2.2.1.size fun b e=>by rw [e];exact h.2.2.2.2.1),h.2.2.2.2⟩
 rcases hz with hz | hz
 ·exact hz.1
 ·exact ⟨.inr (by omega),by omega,by omega⟩
theorem RB.store(h:RB w0 Z gb g2 Ls r c pd au o k w1)(hb:Below w1.heap.size w1 w2)(hv:HeldE lineE (fun b=>(((Z b\/w0.heap.size<=b)/\b≠gb/\b≠g2)/\b<w1.heap.size)\/(w1.heap.size<=b/\b<w2.heap.size)) w2 (.slice o' L3.length k') L3):RB w0 Z gb g2 L3 r3 c3 pd3 au3 o' k' (((((w2.setCell ⟨gb,0,none⟩ (.slice o' L3.length k')).setCell ⟨gb,1,none⟩ (.int .i64 r3)).setCell ⟨gb,2,none⟩ (.int .i64 c3)).setCell ⟨gb,3,none⟩ (.bool pd3)).setCell ⟨gb,4,none⟩ (.bool au3)) :=
 h.held hb (aR gb _ _ _ _ _) hv (cJ (h.1.below hb h.1.lt) _ _ _ _ _)
theorem RB.fin(h:RB w0 Z gb g2 Ls r c pd au o k w1):HeldE lineE (fun b=>Z b\/(w0.heap.size<=b/\b<(((((w1.setCell ⟨g2,0,none⟩ (.slice o Ls.length k)).setCell ⟨g2,1,none⟩ (.int .i64 r)).setCell ⟨g2,2,none⟩ (.int .i64 c)).setCell ⟨g2,3,none⟩ (.bool pd)).setCell ⟨g2,4,none⟩ (.bool au)).heap.size)) (((((w1.setCell ⟨g2,0,none⟩ (.slice o Ls.length k)).setCell ⟨g2,1,none⟩ (.int .i64 r)).setCell ⟨g2,2,none⟩ (.int .i64 c)).setCell ⟨g2,3,none⟩ (.bool pd)).setCell ⟨g2,4,none⟩ (.bool au)) (.slice o Ls.length k) Ls/\Below w0.heap.size w0 (((((w1.setCell ⟨g2,0,none⟩ (.slice o Ls.length k)).setCell ⟨g2,1,none⟩ (.int .i64 r)).setCell ⟨g2,2,none⟩ (.int .i64 c)).setCell ⟨g2,3,none⟩ (.bool pd)).setCell ⟨g2,4,none⟩ (.bool au)) :=
 ⟨(h.2.1.upd (aR g2 _ _ _ _ _) (fun b hz e=>hz.2.2 e)).zone fun b hlt hz=>by rcases hz.1 with e | e;exact .inl e;exact .inr ⟨e,hlt⟩,iC h.2.2.2.1 h.2.2.2.2.2.1 _ _ _ _ _⟩
end
end
def RCt(Z:an)(w:World)(Ls:List Ln)(r c:Int)(pd au:Bool)(K:Int)(v:Value)(r2 c2:Nat):Prop:=Calls Tryz.prog 98 #[.agg #[v,.int .i64 r,.int .i64 c,.bool pd,.bool au],.int .i32 K] w (fun e w'=>∃ v',e=.returned (.tuple #[.agg #[v',.int .i64 (ctR Ls r r2 K),.int .i64 (ctC c c2 K),.bool (ctP pd K),.bool au],.bool (bT K)])/\HeldE lineE (fun b=>Z b\/(w.heap.size<=b/\b<w'.heap.size)) w' v' (ctL Ls r2 K)/\Below w.heap.size w w')
theorem Al(Z:an)(v:Value)(Ls:List Ln)(r c:Int)(pd au:Bool)(w:World)(hv:HeldE lineE Z w v Ls)(hZ:∀ b,Z b->b<w.heap.size)(wd:Nat)(Cc:Even Ls wd)(r2 c2:Nat)(hr2:inI r (ay Ls.length)=(r2:Int))(hc2:inI c (ay wd)=(c2:Int))(DX:r2<Ls.length)(hlc:c2<wd):RCt Z w Ls r c pd au 13 v r2 c2:=by
 unfold RCt;obtain ⟨ao,ca,rfl⟩:=hv.len;obtain ⟨n,hn⟩:=ae (Ls.length);obtain ⟨W,hW,hb,hx,hl0⟩:=gF w (.slice ao Ls.length ca) (.int .i64 r) (.int .i64 c) (.bool pd) (.bool au) (.slice none 0 0) (.int .i64 0) (.int .i64 0) (.bool false) (.bool false);obtain ⟨gb,hgb⟩:=ae (w.heap.size);obtain ⟨gz,DR⟩:=ae (w.heap.size+1);have HG:=ab (And.intro hgb DR);have CM:RB w Z gb gz Ls r c pd au ao ca W:=by
  refine ⟨by rw [hgb];exact hb,(hv.below hl0).zone (fun x _ hx=>⟨.inl hx,?_,?_⟩),by rw [DR];exact hx,hl0,by omega,by omega,by omega⟩
  ·have:=hZ x hx;omega
  ·have:=hZ x hx;omega
 have DM:=ab CM;have Ju:=ab Cc;have HN:=ab hn;have hw0:(Ls.getD 0 zl).1.length=wd:=Cc.2.2.2.2 0 Cc.1;obtain ⟨pd2,DZ⟩:=ae (cI c pd wd);have Ke:=ab (show Calls Tryz.prog 141 #[.agg #[.slice ao n ca,.int .i64 r,.int .i64 c,.bool pd,.bool au]] W (Gives W (.agg #[.slice ao n ca,.int .i64 r2,.int .i64 c2,.bool pd2,.bool au])) from by
  have h9:=iu _ (.slice ao Ls.length ca) Ls r c pd au W CM.2.1 Cc.1 wd hw0;rw [hr2,hc2,<-DZ] at h9;rw [hn];exact h9)
 have IW:=ab (show Calls Tryz.prog 162 #[.agg #[.slice ao n ca,.int .i64 r,.int .i64 c,.bool pd,.bool au]] W (qo (fun b=>((Z b\/w.heap.size<=b)/\b≠gb/\b≠gz)/\b<W.heap.size) W (dD Ls r2) (aW Ls r2:Nat) c2 false au) from by
  have h9:=ib _ (.slice ao Ls.length ca) Ls r c pd au W wd CM.arg (fun x hx=>hx.2) Cc r2 c2 hr2 hc2 DX;rw [hn];exact h9)
 obtain ⟨sk,hsk⟩:=ae (bT 13);have E6:=ab (show ∀ w',Calls Tryz.prog 91 #[.int .i32 13] w' (Gives w' (.bool sk)) from fun w'=>by rw [hsk];exact eY 13 w');obtain ⟨RL,FF⟩:=ae (ctL Ls r2 13);obtain ⟨rr,DO⟩:=ae (ctR Ls r r2 13);obtain ⟨cc,hcc⟩:=ae (ctC c c2 13);obtain ⟨pp,Cj⟩:=ae (ctP pd 13);have HE:=ab (by
  obtain ⟨t1,t2,t3,t4⟩:=zS Ls r c r2 c2 pd;exact And.intro (FF.trans t1) (And.intro (DO.trans t2) (And.intro (hcc.trans t3) (Cj.trans t4))))
 have PG:=ab (show c2<=2000 from by have:=Cc.2.2.2.1;omega);rw [<-hsk,<-FF,<-DO,<-hcc,<-Cj];rw [<-hn] at hW ⊢;clear hv hZ Cc hr2 hc2 DX hlc hb hx hl0 hgb DR CM hn hw0 DZ hsk FF DO hcc Cj
 go_enter Tryz.func98,Tryz.ntmps98
 go_upto_region 1 with (fail)
 rw [<-hW];clear hW;rw [<-HG.out.2];rw [<-HG.out.1];have q0:=DM.out.1.cell 0 _ rfl;rw [<-HN.out] at q0;have q1:=DM.out.1.cell 1 _ rfl;have q2:=DM.out.1.cell 2 _ rfl;have q3:=DM.out.1.cell 3 _ rfl;have q4:=DM.out.1.cell 4 _ rfl
 go_wp2_with fail
 refine Ke.out.mono ?_;rintro e w1 ⟨rfl,b1⟩;have h1:=DM.out.below b1;clear q0 q1 q2 q3 q4;have q0:=h1.1.cell 0 _ rfl;rw [<-HN.out] at q0;have q1:=h1.1.cell 1 _ rfl;have q2:=h1.1.cell 2 _ rfl;have q3:=h1.1.cell 3 _ rfl;have q4:=h1.1.cell 4 _ rfl;have f0:=h1.1.free 0;have f1:=h1.1.free 1;have f2:=h1.1.free 2;have f3:=h1.1.free 3;have f4:=h1.1.free 4;obtain ⟨W3,hW3⟩:=ae (((((((w1.setCell ⟨gb,0,none⟩ (.slice ao n ca)).setCell ⟨gb,1,none⟩ (.int .i64 r2)).setCell ⟨gb,2,none⟩ (.int .i64 c2)).setCell ⟨gb,3,none⟩ (.bool pd2)).setCell ⟨gb,4,none⟩ (.bool au)).setCell ⟨gb,2,none⟩ (.int .i64 0)).setCell ⟨gb,3,none⟩ (.bool false));have DV:Upd (fun b=>b=gb) w1 W3:=by rw [hW3];exact ((aR gb _ _ _ _ _).setCell (p:=⟨gb,2,none⟩) (.inl rfl) _).setCell (p:=⟨gb,3,none⟩) (.inl rfl) _
 have h3:RB w Z gb gz Ls r2 0 false au ao ca W3:=h1.own DV (by rw [hW3,HN.out];exact ((cJ h1.1 _ _ _ _ _).set 2 _).set 3 _);have H3:=ab h3;have Jc:=ab hW3;clear h1 b1 DV h3 hW3 Ke DM IW
 go_upto_region 5 with (fail)
 rw [<-Jc.out];clear q0 q1 q2 q3 q4 f0 f1 f2 f3 f4 Jc
 go_upto_region 11 with (fail)
 obtain ⟨Bz,BL⟩ : ∃ CC:Array Bool->World->Prop,CC=fun L8 w'=>Below w.heap.size w w'/\(Mix.one L8 3=0->RB w Z gb gz (Ls) r2 0 false au ao ca w')/\(Mix.one L8 3=1->Has w' gz [.slice ao n ca,.int .i64 r2,.int .i64 0,.bool false,.bool au] 43/\HeldE lineE (fun b=>Z b\/w.heap.size<=b) w' (.slice ao n ca) (Ls)):=⟨_,rfl⟩
 obtain ⟨DI,Dk,Dn,CG⟩:=Reg.xT;obtain ⟨DL,CF,BT,BS,BV,Cv,BU,_,_,_⟩:=Reg.e8 DI
  (fun xx _=>xx=.agg #[.slice ao n ca,.int .i64 r2,.int .i64 0,.bool false,.bool au])
  (fun xx _=>xx=.int .i32 13)
  (fun xx _=>xx=.bool sk)
  (fun xx _=>xx=undef)
  (fun xx _=>xx=.bool sk)
  (fun _ _=>True) (fun _ _=>True) (fun _ _=>True)
 have CH:Hid (∀ i L w,(i == 3)=false ->  Bz L w->Bz (L.setIfInBounds i true) w):=ab (by
  intro i L w q h;simp only [Bool.or_eq_false_iff,beq_eq_false_iff_ne] at q;rw [BL] at h ⊢;simp only [Mix.one_ne q];exact h)
 have Df:Hid (∀ L w w1,Bz L w->Below w.heap.size w w1->Bz L w1):=ab (by
  intro L w w1 h hb;rw [BL] at h ⊢
  (obtain ⟨q1,q2,q3⟩:=h;exact ⟨q1.trans (hb.mono q1.size),fun e=>(q2 e).below hb,fun e=>⟨(q3 e).1.below hb (q3 e).1.lt,(q3 e).2.below hb⟩⟩))
 have Dp:=ab (show Bz (Array.replicate 5 false) W3.drew from by rw [BL];exact ⟨H3.out.2.2.2.1.trans ((Below.refl W3.heap.size W3).drew.mono H3.out.2.2.2.1.size),fun _=>H3.out.below (Below.refl _ _).drew,fun e=>absurd e (by decide)⟩);have B9:=ab (fun (i:Nat) L w v q (h:Bz L w) (e:DL i v w)=>Reg.hk (CH.out i L w q h) e (Dn.out w));have Bu:=ab BL;have Cy:=ab Dk;clear BL Dk
 go_wp2_with fail
 refine Reg.regionF DL Bz DI CF.out (by kernel_rfl) (by kernel_rfl) (by kernel_rfl) Dp.out (fun L4 Bx=>?_);simp only [Reg.frame,Reg.dsts,List.map_cons,List.map_nil,Mix.put_lit,Reg.put_none,List.set_cons_succ,List.set_cons_zero,Nat.zero_add,Nat.reduceAdd] at Bx;refine ⟨⟨?_,?_,?_,?_,?_,trivial⟩,?_⟩
 ·intro Lq wq xq hh;simp only [Bx];refine Reg.go rfl ?_;have hc:Bz Lq wq:=hh.cls;rw [Bu.out] at hc;have hq:=(hc.2.1 (Mix.one_un (hh.notYet 3 (by kernel_rfl)))).1;rw [<-HN.out] at hq;have q0:=hq.cell 0 _ rfl;have q1:=hq.cell 1 _ rfl;have q2:=hq.cell 2 _ rfl;have q3:=hq.cell 3 _ rfl;have q4:=hq.cell 4 _ rfl;clear hc;have HK:=B9.out 0 _ _ _ rfl hh.cls ((BT.out _ _).mpr rfl);go_simp;exact HK.out
 ·intro Lq wq xq hh;simp only [Bx];refine Reg.go rfl ?_;have HK:=B9.out 1 _ _ _ rfl hh.cls ((BS.out _ _).mpr rfl);go_simp;exact HK.out
 ·intro Lq wq xq hh;simp only [Bx,(BS.out _ _).mp (hh.v 1)];refine Reg.go rfl ?_;unfold Reg.upon;have hc:Bz Lq wq:=hh.cls;rw [Bu.out] at hc;go_simp;refine (E6.out wq).mono ?_;rintro e w2 ⟨rfl,hb⟩;exact ⟨_,rfl,CH.out 2 Lq w2 rfl  (Df.out Lq wq w2 hh.cls hb),(by rw [BV.out];try rfl),CG.out wq w2 hb⟩
 ·intro Lq wq xq hh;simp only [Bx,(BT.out _ _).mp (hh.v 0)];refine Reg.go rfl ?_;unfold Reg.upon;have hc:Bz Lq wq:=hh.cls;rw [Bu.out] at hc;have hq:=hc.2.1 hh.un;have s0:=hq.2.2.1.cell 0 _ rfl;have s1:=hq.2.2.1.cell 1 _ rfl;have s2:=hq.2.2.1.cell 2 _ rfl;have s3:=hq.2.2.1.cell 3 _ rfl;have s4:=hq.2.2.1.cell 4 _ rfl;have f0:=hq.2.2.1.free 0;have f1:=hq.2.2.1.free 1;have f2:=hq.2.2.1.free 2;have f3:=hq.2.2.1.free 3;have f4:=hq.2.2.1.free 4;have hv:=hq.2.1;rw [<-HN.out] at hv;have hF:Bz (Lq.setIfInBounds 3 true) (((((wq.setCell ⟨gz,0,none⟩ (.slice ao n ca)).setCell ⟨gz,1,none⟩ (.int .i64 r2)).setCell ⟨gz,2,none⟩ (.int .i64 0)).setCell ⟨gz,3,none⟩ (.bool false)).setCell ⟨gz,4,none⟩ (.bool au)):=by
   rw [Bu.out];refine ⟨iC hc.1 hq.2.2.2.2.2.1 _ _ _ _ _,fun e=>?_,fun _=>⟨cJ hq.2.2.1 _ _ _ _ _,(hv.upd (aR gz _ _ _ _ _) (fun b hz e=>hz.2.2 e)).zone (fun b _ hz=>hz.1)⟩⟩;rw [Mix.one_set (by rw [hh.size];decide)] at e;exact absurd e (by decide)
  have hE:DL 3 undef (((((wq.setCell ⟨gz,0,none⟩ (.slice ao n ca)).setCell ⟨gz,1,none⟩ (.int .i64 r2)).setCell ⟨gz,2,none⟩ (.int .i64 0)).setCell ⟨gz,3,none⟩ (.bool false)).setCell ⟨gz,4,none⟩ (.bool au)):=by rw [Cv.out]
  have hX:DI wq (((((wq.setCell ⟨gz,0,none⟩ (.slice ao n ca)).setCell ⟨gz,1,none⟩ (.int .i64 r2)).setCell ⟨gz,2,none⟩ (.int .i64 0)).setCell ⟨gz,3,none⟩ (.bool false)).setCell ⟨gz,4,none⟩ (.bool au)):=by rw [Cy.out];trivial
  clear hc hq hv;go_simp;exact ⟨hF,hE,hX⟩
 ·intro Lq wq xq hh;simp only [Bx,(BV.out _ _).mp (hh.v 2)];refine Reg.go rfl ?_;have HK:=B9.out 4 _ _ _ rfl hh.cls ((BU.out _ _).mpr rfl);go_simp;exact HK.out
 intro xq GW Dq Dm;rw [Bu.out] at Dq;simp only [Bx];have vrgs4:=(BU.out _ _).mp (Dm 4 (by decide));rw [vrgs4];clear Dm Bx B9 CH Dn CF Dp Bu Cy Df CG BT BS BV Cv BU;obtain ⟨AY,_,h3⟩:=Dq;obtain ⟨hr3,hv3⟩:=h3 (by kernel_rfl);have k0:=hr3.cell 0 _ rfl;have k1:=hr3.cell 1 _ rfl;have k2:=hr3.cell 2 _ rfl;have k3:=hr3.cell 3 _ rfl;have k4:=hr3.cell 4 _ rfl;have HF:=ab (And.intro (hv3.zone (Y:=fun b=>Z b\/(w.heap.size<=b/\b<GW.heap.size)) (fun b hlt hz=>by rcases hz with hz | hz;exact .inl hz;exact .inr ⟨hz,hlt⟩)) AY);clear hr3 hv3 h3 vrgs4;go_wp2;refine bodyPost_ret (v:=.tuple #[.agg #[.slice ao n ca,.int .i64 r2,.int .i64 0,.bool false,.bool au],.bool sk]) (by simp [results,Tryz.results98,go_sem,k0,k1,k2,k3,k4]) rfl ?_;rw [HE.out.1,HE.out.2.1,HE.out.2.2.1,HE.out.2.2.2];exact ⟨_,rfl,HF.out.1,HF.out.2⟩
theorem AG(Z:an)(v:Value)(Ls:List Ln)(r c:Int)(pd au:Bool)(w:World)(hv:HeldE lineE Z w v Ls)(hZ:∀ b,Z b->b<w.heap.size)(wd:Nat)(Cc:Even Ls wd)(r2 c2:Nat)(hr2:inI r (ay Ls.length)=(r2:Int))(hc2:inI c (ay wd)=(c2:Int))(DX:r2<Ls.length)(hlc:c2<wd):RCt Z w Ls r c pd au 8 v r2 c2:=by
 unfold RCt;obtain ⟨ao,ca,rfl⟩:=hv.len;obtain ⟨n,hn⟩:=ae (Ls.length);obtain ⟨W,hW,hb,hx,hl0⟩:=gF w (.slice ao Ls.length ca) (.int .i64 r) (.int .i64 c) (.bool pd) (.bool au) (.slice none 0 0) (.int .i64 0) (.int .i64 0) (.bool false) (.bool false);obtain ⟨gb,hgb⟩:=ae (w.heap.size);obtain ⟨gz,DR⟩:=ae (w.heap.size+1);have HG:=ab (And.intro hgb DR);have CM:RB w Z gb gz Ls r c pd au ao ca W:=by
  refine ⟨by rw [hgb];exact hb,(hv.below hl0).zone (fun x _ hx=>⟨.inl hx,?_,?_⟩),by rw [DR];exact hx,hl0,by omega,by omega,by omega⟩
  ·have:=hZ x hx;omega
  ·have:=hZ x hx;omega
 have DM:=ab CM;have Ju:=ab Cc;have HN:=ab hn;have hw0:(Ls.getD 0 zl).1.length=wd:=Cc.2.2.2.2 0 Cc.1;obtain ⟨pd2,DZ⟩:=ae (cI c pd wd);have Ke:=ab (show Calls Tryz.prog 141 #[.agg #[.slice ao n ca,.int .i64 r,.int .i64 c,.bool pd,.bool au]] W (Gives W (.agg #[.slice ao n ca,.int .i64 r2,.int .i64 c2,.bool pd2,.bool au])) from by
  have h9:=iu _ (.slice ao Ls.length ca) Ls r c pd au W CM.2.1 Cc.1 wd hw0;rw [hr2,hc2,<-DZ] at h9;rw [hn];exact h9)
 have IW:=ab (show Calls Tryz.prog 162 #[.agg #[.slice ao n ca,.int .i64 r,.int .i64 c,.bool pd,.bool au]] W (qo (fun b=>((Z b\/w.heap.size<=b)/\b≠gb/\b≠gz)/\b<W.heap.size) W (dD Ls r2) (aW Ls r2:Nat) c2 false au) from by
  have h9:=ib _ (.slice ao Ls.length ca) Ls r c pd au W wd CM.arg (fun x hx=>hx.2) Cc r2 c2 hr2 hc2 DX;rw [hn];exact h9)
 obtain ⟨sk,hsk⟩:=ae (bT 8);have E6:=ab (show ∀ w',Calls Tryz.prog 91 #[.int .i32 8] w' (Gives w' (.bool sk)) from fun w'=>by rw [hsk];exact eY 8 w');obtain ⟨RL,FF⟩:=ae (ctL Ls r2 8);obtain ⟨rr,DO⟩:=ae (ctR Ls r r2 8);obtain ⟨cc,hcc⟩:=ae (ctC c c2 8);obtain ⟨pp,Cj⟩:=ae (ctP pd 8);have HE:=ab (by
  obtain ⟨t1,t2,t3,t4⟩:=AF Ls r c r2 c2 pd;exact And.intro (FF.trans t1) (And.intro (DO.trans t2) (And.intro (hcc.trans t3) (Cj.trans t4))))
 have PG:=ab (show c2<=2000 from by have:=Cc.2.2.2.1;omega);rw [<-hsk,<-FF,<-DO,<-hcc,<-Cj];rw [<-hn] at hW ⊢;clear hv hZ Cc hr2 hc2 DX hlc hb hx hl0 hgb DR CM hn hw0 DZ hsk FF DO hcc Cj;obtain ⟨d1,Gh⟩:=ae ((c2:Int) - 1);have Da:IntKind.i64.wrap ((c2:Int) - 1)=d1:=by rw [Gh,IntKind.wrap_i64];have:=PG.out;omega
 obtain ⟨d2,Jl⟩:=ae (((c2 - 1:Nat):Int));have NY:max 0 d1=d2:=by rw [Gh,Jl];omega
 rw [<-Jl] at HE;clear Gh Jl
 go_enter Tryz.func98,Tryz.ntmps98
 go_upto_region 1 with (fail)
 rw [<-hW];clear hW;rw [<-HG.out.2];rw [<-HG.out.1];have q0:=DM.out.1.cell 0 _ rfl;rw [<-HN.out] at q0;have q1:=DM.out.1.cell 1 _ rfl;have q2:=DM.out.1.cell 2 _ rfl;have q3:=DM.out.1.cell 3 _ rfl;have q4:=DM.out.1.cell 4 _ rfl
 go_wp2_with fail
 refine Ke.out.mono ?_;rintro e w1 ⟨rfl,b1⟩;have h1:=DM.out.below b1;clear q0 q1 q2 q3 q4;have q0:=h1.1.cell 0 _ rfl;rw [<-HN.out] at q0;have q1:=h1.1.cell 1 _ rfl;have q2:=h1.1.cell 2 _ rfl;have q3:=h1.1.cell 3 _ rfl;have q4:=h1.1.cell 4 _ rfl;have f0:=h1.1.free 0;have f1:=h1.1.free 1;have f2:=h1.1.free 2;have f3:=h1.1.free 3;have f4:=h1.1.free 4;obtain ⟨W3,hW3⟩:=ae (((((((w1.setCell ⟨gb,0,none⟩ (.slice ao n ca)).setCell ⟨gb,1,none⟩ (.int .i64 r2)).setCell ⟨gb,2,none⟩ (.int .i64 c2)).setCell ⟨gb,3,none⟩ (.bool pd2)).setCell ⟨gb,4,none⟩ (.bool au)).setCell ⟨gb,2,none⟩ (.int .i64 d2)).setCell ⟨gb,3,none⟩ (.bool false));have DV:Upd (fun b=>b=gb) w1 W3:=by rw [hW3];exact ((aR gb _ _ _ _ _).setCell (p:=⟨gb,2,none⟩) (.inl rfl) _).setCell (p:=⟨gb,3,none⟩) (.inl rfl) _
 have h3:RB w Z gb gz Ls r2 d2 false au ao ca W3:=h1.own DV (by rw [hW3,HN.out];exact ((cJ h1.1 _ _ _ _ _).set 2 _).set 3 _);have H3:=ab h3;have Jc:=ab hW3;clear h1 b1 DV h3 hW3 Ke DM IW
 go_upto_region 11 with (fail)
 rw [<-Jc.out];clear q0 q1 q2 q3 q4 f0 f1 f2 f3 f4 Jc;obtain ⟨Bz,BL⟩ : ∃ CC:Array Bool->World->Prop,CC=fun L8 w'=>Below w.heap.size w w'/\(Mix.one L8 3=0->RB w Z gb gz (Ls) r2 d2 false au ao ca w')/\(Mix.one L8 3=1->Has w' gz [.slice ao n ca,.int .i64 r2,.int .i64 d2,.bool false,.bool au] 43/\HeldE lineE (fun b=>Z b\/w.heap.size<=b) w' (.slice ao n ca) (Ls)):=⟨_,rfl⟩
 obtain ⟨DI,Dk,Dn,CG⟩:=Reg.xT;obtain ⟨DL,CF,BT,BS,BV,Cv,BU,_,_,_⟩:=Reg.e8 DI
  (fun xx _=>xx=.agg #[.slice ao n ca,.int .i64 r2,.int .i64 d2,.bool false,.bool au])
  (fun xx _=>xx=.int .i32 8)
  (fun xx _=>xx=.bool sk)
  (fun xx _=>xx=undef)
  (fun xx _=>xx=.bool sk)
  (fun _ _=>True) (fun _ _=>True) (fun _ _=>True)
 have CH:Hid (∀ i L w,(i == 3)=false ->  Bz L w->Bz (L.setIfInBounds i true) w):=ab (by
  intro i L w q h;simp only [Bool.or_eq_false_iff,beq_eq_false_iff_ne] at q;rw [BL] at h ⊢;simp only [Mix.one_ne q];exact h)
 have Df:Hid (∀ L w w1,Bz L w->Below w.heap.size w w1->Bz L w1):=ab (by
  intro L w w1 h hb;rw [BL] at h ⊢
  (obtain ⟨q1,q2,q3⟩:=h;exact ⟨q1.trans (hb.mono q1.size),fun e=>(q2 e).below hb,fun e=>⟨(q3 e).1.below hb (q3 e).1.lt,(q3 e).2.below hb⟩⟩))
 have Dp:=ab (show Bz (Array.replicate 5 false) W3.drew from by rw [BL];exact ⟨H3.out.2.2.2.1.trans ((Below.refl W3.heap.size W3).drew.mono H3.out.2.2.2.1.size),fun _=>H3.out.below (Below.refl _ _).drew,fun e=>absurd e (by decide)⟩);have B9:=ab (fun (i:Nat) L w v q (h:Bz L w) (e:DL i v w)=>Reg.hk (CH.out i L w q h) e (Dn.out w));have Bu:=ab BL;have Cy:=ab Dk;clear BL Dk
 go_wp2_with fail
 refine Reg.regionF DL Bz DI CF.out (by kernel_rfl) (by kernel_rfl) (by kernel_rfl) Dp.out (fun L4 Bx=>?_);simp only [Reg.frame,Reg.dsts,List.map_cons,List.map_nil,Mix.put_lit,Reg.put_none,List.set_cons_succ,List.set_cons_zero,Nat.zero_add,Nat.reduceAdd] at Bx;refine ⟨⟨?_,?_,?_,?_,?_,trivial⟩,?_⟩
 ·intro Lq wq xq hh;simp only [Bx];refine Reg.go rfl ?_;have hc:Bz Lq wq:=hh.cls;rw [Bu.out] at hc;have hq:=(hc.2.1 (Mix.one_un (hh.notYet 3 (by kernel_rfl)))).1;rw [<-HN.out] at hq;have q0:=hq.cell 0 _ rfl;have q1:=hq.cell 1 _ rfl;have q2:=hq.cell 2 _ rfl;have q3:=hq.cell 3 _ rfl;have q4:=hq.cell 4 _ rfl;clear hc;have HK:=B9.out 0 _ _ _ rfl hh.cls ((BT.out _ _).mpr rfl);go_simp;exact HK.out
 ·intro Lq wq xq hh;simp only [Bx];refine Reg.go rfl ?_;have HK:=B9.out 1 _ _ _ rfl hh.cls ((BS.out _ _).mpr rfl);go_simp;exact HK.out
 ·intro Lq wq xq hh;simp only [Bx,(BS.out _ _).mp (hh.v 1)];refine Reg.go rfl ?_;unfold Reg.upon;have hc:Bz Lq wq:=hh.cls;rw [Bu.out] at hc;go_simp;refine (E6.out wq).mono ?_;rintro e w2 ⟨rfl,hb⟩;exact ⟨_,rfl,CH.out 2 Lq w2 rfl  (Df.out Lq wq w2 hh.cls hb),(by rw [BV.out];try rfl),CG.out wq w2 hb⟩
 ·intro Lq wq xq hh;simp only [Bx,(BT.out _ _).mp (hh.v 0)];refine Reg.go rfl ?_;unfold Reg.upon;have hc:Bz Lq wq:=hh.cls;rw [Bu.out] at hc;have hq:=hc.2.1 hh.un;have s0:=hq.2.2.1.cell 0 _ rfl;have s1:=hq.2.2.1.cell 1 _ rfl;have s2:=hq.2.2.1.cell 2 _ rfl;have s3:=hq.2.2.1.cell 3 _ rfl;have s4:=hq.2.2.1.cell 4 _ rfl;have f0:=hq.2.2.1.free 0;have f1:=hq.2.2.1.free 1;have f2:=hq.2.2.1.free 2;have f3:=hq.2.2.1.free 3;have f4:=hq.2.2.1.free 4;have hv:=hq.2.1;rw [<-HN.out] at hv;have hF:Bz (Lq.setIfInBounds 3 true) (((((wq.setCell ⟨gz,0,none⟩ (.slice ao n ca)).setCell ⟨gz,1,none⟩ (.int .i64 r2)).setCell ⟨gz,2,none⟩ (.int .i64 d2)).setCell ⟨gz,3,none⟩ (.bool false)).setCell ⟨gz,4,none⟩ (.bool au)):=by
   rw [Bu.out];refine ⟨iC hc.1 hq.2.2.2.2.2.1 _ _ _ _ _,fun e=>?_,fun _=>⟨cJ hq.2.2.1 _ _ _ _ _,(hv.upd (aR gz _ _ _ _ _) (fun b hz e=>hz.2.2 e)).zone (fun b _ hz=>hz.1)⟩⟩;rw [Mix.one_set (by rw [hh.size];decide)] at e;exact absurd e (by decide)
  have hE:DL 3 undef (((((wq.setCell ⟨gz,0,none⟩ (.slice ao n ca)).setCell ⟨gz,1,none⟩ (.int .i64 r2)).setCell ⟨gz,2,none⟩ (.int .i64 d2)).setCell ⟨gz,3,none⟩ (.bool false)).setCell ⟨gz,4,none⟩ (.bool au)):=by rw [Cv.out]
  have hX:DI wq (((((wq.setCell ⟨gz,0,none⟩ (.slice ao n ca)).setCell ⟨gz,1,none⟩ (.int .i64 r2)).setCell ⟨gz,2,none⟩ (.int .i64 d2)).setCell ⟨gz,3,none⟩ (.bool false)).setCell ⟨gz,4,none⟩ (.bool au)):=by rw [Cy.out];trivial
  clear hc hq hv;go_simp;exact ⟨hF,hE,hX⟩
 ·intro Lq wq xq hh;simp only [Bx,(BV.out _ _).mp (hh.v 2)];refine Reg.go rfl ?_;have HK:=B9.out 4 _ _ _ rfl hh.cls ((BU.out _ _).mpr rfl);go_simp;exact HK.out
 intro xq GW Dq Dm;rw [Bu.out] at Dq;simp only [Bx];have vrgs4:=(BU.out _ _).mp (Dm 4 (by decide));rw [vrgs4];clear Dm Bx B9 CH Dn CF Dp Bu Cy Df CG BT BS BV Cv BU;obtain ⟨AY,_,h3⟩:=Dq;obtain ⟨hr3,hv3⟩:=h3 (by kernel_rfl);have k0:=hr3.cell 0 _ rfl;have k1:=hr3.cell 1 _ rfl;have k2:=hr3.cell 2 _ rfl;have k3:=hr3.cell 3 _ rfl;have k4:=hr3.cell 4 _ rfl;have HF:=ab (And.intro (hv3.zone (Y:=fun b=>Z b\/(w.heap.size<=b/\b<GW.heap.size)) (fun b hlt hz=>by rcases hz with hz | hz;exact .inl hz;exact .inr ⟨hz,hlt⟩)) AY);clear hr3 hv3 h3 vrgs4;go_wp2;refine bodyPost_ret (v:=.tuple #[.agg #[.slice ao n ca,.int .i64 r2,.int .i64 d2,.bool false,.bool au],.bool sk]) (by simp [results,Tryz.results98,go_sem,k0,k1,k2,k3,k4]) rfl ?_;rw [HE.out.1,HE.out.2.1,HE.out.2.2.1,HE.out.2.2.2];exact ⟨_,rfl,HF.out.1,HF.out.2⟩
theorem Am(Z:an)(v:Value)(Ls:List Ln)(r c:Int)(pd au:Bool)(w:World)(hv:HeldE lineE Z w v Ls)(hZ:∀ b,Z b->b<w.heap.size)(wd:Nat)(Cc:Even Ls wd)(r2 c2:Nat)(hr2:inI r (ay Ls.length)=(r2:Int))(hc2:inI c (ay wd)=(c2:Int))(DX:r2<Ls.length)(hlc:c2<wd):RCt Z w Ls r c pd au 10 v r2 c2:=by
 unfold RCt;obtain ⟨ao,ca,rfl⟩:=hv.len;obtain ⟨n,hn⟩:=ae (Ls.length);obtain ⟨W,hW,hb,hx,hl0⟩:=gF w (.slice ao Ls.length ca) (.int .i64 r) (.int .i64 c) (.bool pd) (.bool au) (.slice none 0 0) (.int .i64 0) (.int .i64 0) (.bool false) (.bool false);obtain ⟨gb,hgb⟩:=ae (w.heap.size);obtain ⟨gz,DR⟩:=ae (w.heap.size+1);have HG:=ab (And.intro hgb DR);have CM:RB w Z gb gz Ls r c pd au ao ca W:=by
  refine ⟨by rw [hgb];exact hb,(hv.below hl0).zone (fun x _ hx=>⟨.inl hx,?_,?_⟩),by rw [DR];exact hx,hl0,by omega,by omega,by omega⟩
  ·have:=hZ x hx;omega
  ·have:=hZ x hx;omega
 have DM:=ab CM;have Ju:=ab Cc;have HN:=ab hn;have hw0:(Ls.getD 0 zl).1.length=wd:=Cc.2.2.2.2 0 Cc.1;obtain ⟨pd2,DZ⟩:=ae (cI c pd wd);have Ke:=ab (show Calls Tryz.prog 141 #[.agg #[.slice ao n ca,.int .i64 r,.int .i64 c,.bool pd,.bool au]] W (Gives W (.agg #[.slice ao n ca,.int .i64 r2,.int .i64 c2,.bool pd2,.bool au])) from by
  have h9:=iu _ (.slice ao Ls.length ca) Ls r c pd au W CM.2.1 Cc.1 wd hw0;rw [hr2,hc2,<-DZ] at h9;rw [hn];exact h9)
 have IW:=ab (show Calls Tryz.prog 162 #[.agg #[.slice ao n ca,.int .i64 r,.int .i64 c,.bool pd,.bool au]] W (qo (fun b=>((Z b\/w.heap.size<=b)/\b≠gb/\b≠gz)/\b<W.heap.size) W (dD Ls r2) (aW Ls r2:Nat) c2 false au) from by
  have h9:=ib _ (.slice ao Ls.length ca) Ls r c pd au W wd CM.arg (fun x hx=>hx.2) Cc r2 c2 hr2 hc2 DX;rw [hn];exact h9)
 obtain ⟨sk,hsk⟩:=ae (bT 10);have E6:=ab (show ∀ w',Calls Tryz.prog 91 #[.int .i32 10] w' (Gives w' (.bool sk)) from fun w'=>by rw [hsk];exact eY 10 w');obtain ⟨RL,FF⟩:=ae (ctL Ls r2 10);obtain ⟨rr,DO⟩:=ae (ctR Ls r r2 10);obtain ⟨cc,hcc⟩:=ae (ctC c c2 10);obtain ⟨pp,Cj⟩:=ae (ctP pd 10);have HE:=ab (by
  obtain ⟨t1,t2,t3,t4⟩:=zT Ls r c r2 c2 pd;exact And.intro (FF.trans t1) (And.intro (DO.trans t2) (And.intro (hcc.trans t3) (Cj.trans t4))))
 have PG:=ab (show c2<=2000 from by have:=Cc.2.2.2.1;omega);rw [<-hsk,<-FF,<-DO,<-hcc,<-Cj];rw [<-hn] at hW ⊢;clear hv hZ Cc hr2 hc2 DX hlc hb hx hl0 hgb DR CM hn hw0 DZ hsk FF DO hcc Cj
 go_enter Tryz.func98,Tryz.ntmps98
 go_upto_region 1 with (fail)
 rw [<-hW];clear hW;rw [<-HG.out.2];rw [<-HG.out.1];have q0:=DM.out.1.cell 0 _ rfl;rw [<-HN.out] at q0;have q1:=DM.out.1.cell 1 _ rfl;have q2:=DM.out.1.cell 2 _ rfl;have q3:=DM.out.1.cell 3 _ rfl;have q4:=DM.out.1.cell 4 _ rfl
 go_wp2_with fail
 refine IW.out.mono ?_;rintro e w5 ⟨v5,rfl,h5,b5⟩;clear q0 q1 q2 q3 q4;obtain ⟨o5,k5,ev5⟩:=h5.len;have hst:=RB.store (r3:=(aW Ls r2:Nat)) (c3:=c2) (pd3:=false) (au3:=au) DM.out b5 (by rw [<-ev5];exact h5);have JQ:=DM.out.below b5;rw [fW,<-HN.out] at ev5 hst;subst ev5;obtain ⟨W3,hW3⟩:=ae ((((((w5.setCell ⟨gb,0,none⟩ (.slice o5 n k5)).setCell ⟨gb,1,none⟩ (.int .i64 (aW Ls r2:Nat))).setCell ⟨gb,2,none⟩ (.int .i64 c2)).setCell ⟨gb,3,none⟩ (.bool false)).setCell ⟨gb,4,none⟩ (.bool au)));rw [<-hW3] at hst;have H3:=ab hst;have Jc:=ab hW3;have s0:=JQ.1.cell 0 _ rfl;have s1:=JQ.1.cell 1 _ rfl;have s2:=JQ.1.cell 2 _ rfl;have s3:=JQ.1.cell 3 _ rfl;have s4:=JQ.1.cell 4 _ rfl;have f0:=JQ.1.free 0;have f1:=JQ.1.free 1;have f2:=JQ.1.free 2;have f3:=JQ.1.free 3;have f4:=JQ.1.free 4;clear h5 b5 hst JQ hW3 Ke DM IW
 go_upto_region 7 with (fail)
 rw [<-Jc.out];clear s0 s1 s2 s3 s4 f0 f1 f2 f3 f4 Jc
 go_upto_region 11 with (fail)
 obtain ⟨Bz,BL⟩ : ∃ CC:Array Bool->World->Prop,CC=fun L8 w'=>Below w.heap.size w w'/\(Mix.one L8 3=0->RB w Z gb gz (dD Ls r2) (aW Ls r2:Nat) c2 false au o5 k5 w')/\(Mix.one L8 3=1->Has w' gz [.slice o5 n k5,.int .i64 (aW Ls r2:Nat),.int .i64 c2,.bool false,.bool au] 43/\HeldE lineE (fun b=>Z b\/w.heap.size<=b) w' (.slice o5 n k5) (dD Ls r2)):=⟨_,rfl⟩
 obtain ⟨DI,Dk,Dn,CG⟩:=Reg.xT;obtain ⟨DL,CF,BT,BS,BV,Cv,BU,_,_,_⟩:=Reg.e8 DI
  (fun xx _=>xx=.agg #[.slice o5 n k5,.int .i64 (aW Ls r2:Nat),.int .i64 c2,.bool false,.bool au])
  (fun xx _=>xx=.int .i32 10)
  (fun xx _=>xx=.bool sk)
  (fun xx _=>xx=undef)
  (fun xx _=>xx=.bool sk)
  (fun _ _=>True) (fun _ _=>True) (fun _ _=>True)
 have CH:Hid (∀ i L w,(i == 3)=false ->  Bz L w->Bz (L.setIfInBounds i true) w):=ab (by
  intro i L w q h;simp only [Bool.or_eq_false_iff,beq_eq_false_iff_ne] at q;rw [BL] at h ⊢;simp only [Mix.one_ne q];exact h)
 have Df:Hid (∀ L w w1,Bz L w->Below w.heap.size w w1->Bz L w1):=ab (by
  intro L w w1 h hb;rw [BL] at h ⊢
  (obtain ⟨q1,q2,q3⟩:=h;exact ⟨q1.trans (hb.mono q1.size),fun e=>(q2 e).below hb,fun e=>⟨(q3 e).1.below hb (q3 e).1.lt,(q3 e).2.below hb⟩⟩))
 have Dp:=ab (show Bz (Array.replicate 5 false) W3.drew from by rw [BL];exact ⟨H3.out.2.2.2.1.trans ((Below.refl W3.heap.size W3).drew.mono H3.out.2.2.2.1.size),fun _=>H3.out.below (Below.refl _ _).drew,fun e=>absurd e (by decide)⟩);have B9:=ab (fun (i:Nat) L w v q (h:Bz L w) (e:DL i v w)=>Reg.hk (CH.out i L w q h) e (Dn.out w));have Bu:=ab BL;have Cy:=ab Dk;clear BL Dk
 go_wp2_with fail
 refine Reg.regionF DL Bz DI CF.out (by kernel_rfl) (by kernel_rfl) (by kernel_rfl) Dp.out (fun L4 Bx=>?_);simp only [Reg.frame,Reg.dsts,List.map_cons,List.map_nil,Mix.put_lit,Reg.put_none,List.set_cons_succ,List.set_cons_zero,Nat.zero_add,Nat.reduceAdd] at Bx;refine ⟨⟨?_,?_,?_,?_,?_,trivial⟩,?_⟩
 ·intro Lq wq xq hh;simp only [Bx];refine Reg.go rfl ?_;have hc:Bz Lq wq:=hh.cls;rw [Bu.out] at hc;have hq:=(hc.2.1 (Mix.one_un (hh.notYet 3 (by kernel_rfl)))).1;rw [fW,<-HN.out] at hq;have q0:=hq.cell 0 _ rfl;have q1:=hq.cell 1 _ rfl;have q2:=hq.cell 2 _ rfl;have q3:=hq.cell 3 _ rfl;have q4:=hq.cell 4 _ rfl;clear hc;have HK:=B9.out 0 _ _ _ rfl hh.cls ((BT.out _ _).mpr rfl);go_simp;exact HK.out
 ·intro Lq wq xq hh;simp only [Bx];refine Reg.go rfl ?_;have HK:=B9.out 1 _ _ _ rfl hh.cls ((BS.out _ _).mpr rfl);go_simp;exact HK.out
 ·intro Lq wq xq hh;simp only [Bx,(BS.out _ _).mp (hh.v 1)];refine Reg.go rfl ?_;unfold Reg.upon;have hc:Bz Lq wq:=hh.cls;rw [Bu.out] at hc;go_simp;refine (E6.out wq).mono ?_;rintro e w2 ⟨rfl,hb⟩;exact ⟨_,rfl,CH.out 2 Lq w2 rfl  (Df.out Lq wq w2 hh.cls hb),(by rw [BV.out];try rfl),CG.out wq w2 hb⟩
 ·intro Lq wq xq hh;simp only [Bx,(BT.out _ _).mp (hh.v 0)];refine Reg.go rfl ?_;unfold Reg.upon;have hc:Bz Lq wq:=hh.cls;rw [Bu.out] at hc;have hq:=hc.2.1 hh.un;have s0:=hq.2.2.1.cell 0 _ rfl;have s1:=hq.2.2.1.cell 1 _ rfl;have s2:=hq.2.2.1.cell 2 _ rfl;have s3:=hq.2.2.1.cell 3 _ rfl;have s4:=hq.2.2.1.cell 4 _ rfl;have f0:=hq.2.2.1.free 0;have f1:=hq.2.2.1.free 1;have f2:=hq.2.2.1.free 2;have f3:=hq.2.2.1.free 3;have f4:=hq.2.2.1.free 4;have hv:=hq.2.1;rw [fW,<-HN.out] at hv;have hF:Bz (Lq.setIfInBounds 3 true) (((((wq.setCell ⟨gz,0,none⟩ (.slice o5 n k5)).setCell ⟨gz,1,none⟩ (.int .i64 (aW Ls r2:Nat))).setCell ⟨gz,2,none⟩ (.int .i64 c2)).setCell ⟨gz,3,none⟩ (.bool false)).setCell ⟨gz,4,none⟩ (.bool au)):=by
   rw [Bu.out];refine ⟨iC hc.1 hq.2.2.2.2.2.1 _ _ _ _ _,fun e=>?_,fun _=>⟨cJ hq.2.2.1 _ _ _ _ _,(hv.upd (aR gz _ _ _ _ _) (fun b hz e=>hz.2.2 e)).zone (fun b _ hz=>hz.1)⟩⟩;rw [Mix.one_set (by rw [hh.size];decide)] at e;exact absurd e (by decide)
  have hE:DL 3 undef (((((wq.setCell ⟨gz,0,none⟩ (.slice o5 n k5)).setCell ⟨gz,1,none⟩ (.int .i64 (aW Ls r2:Nat))).setCell ⟨gz,2,none⟩ (.int .i64 c2)).setCell ⟨gz,3,none⟩ (.bool false)).setCell ⟨gz,4,none⟩ (.bool au)):=by rw [Cv.out]
  have hX:DI wq (((((wq.setCell ⟨gz,0,none⟩ (.slice o5 n k5)).setCell ⟨gz,1,none⟩ (.int .i64 (aW Ls r2:Nat))).setCell ⟨gz,2,none⟩ (.int .i64 c2)).setCell ⟨gz,3,none⟩ (.bool false)).setCell ⟨gz,4,none⟩ (.bool au)):=by rw [Cy.out];trivial
  clear hc hq hv;go_simp;exact ⟨hF,hE,hX⟩
 ·intro Lq wq xq hh;simp only [Bx,(BV.out _ _).mp (hh.v 2)];refine Reg.go rfl ?_;have HK:=B9.out 4 _ _ _ rfl hh.cls ((BU.out _ _).mpr rfl);go_simp;exact HK.out
 intro xq GW Dq Dm;rw [Bu.out] at Dq;simp only [Bx];have vrgs4:=(BU.out _ _).mp (Dm 4 (by decide));rw [vrgs4];clear Dm Bx B9 CH Dn CF Dp Bu Cy Df CG BT BS BV Cv BU;obtain ⟨AY,_,h3⟩:=Dq;obtain ⟨hr3,hv3⟩:=h3 (by kernel_rfl);have k0:=hr3.cell 0 _ rfl;have k1:=hr3.cell 1 _ rfl;have k2:=hr3.cell 2 _ rfl;have k3:=hr3.cell 3 _ rfl;have k4:=hr3.cell 4 _ rfl;have HF:=ab (And.intro (hv3.zone (Y:=fun b=>Z b\/(w.heap.size<=b/\b<GW.heap.size)) (fun b hlt hz=>by rcases hz with hz | hz;exact .inl hz;exact .inr ⟨hz,hlt⟩)) AY);clear hr3 hv3 h3 vrgs4;go_wp2;refine bodyPost_ret (v:=.tuple #[.agg #[.slice o5 n k5,.int .i64 (aW Ls r2:Nat),.int .i64 c2,.bool false,.bool au],.bool sk]) (by simp [results,Tryz.results98,go_sem,k0,k1,k2,k3,k4]) rfl ?_;rw [HE.out.1,HE.out.2.1,HE.out.2.2.1,HE.out.2.2.2];exact ⟨_,rfl,HF.out.1,HF.out.2⟩
theorem An(Z:an)(v:Value)(Ls:List Ln)(r c:Int)(pd au:Bool)(K:Int)(hK:K≠13/\K≠10/\K≠8)(w:World)(hv:HeldE lineE Z w v Ls)(hZ:∀ b,Z b->b<w.heap.size)(wd:Nat)(Cc:Even Ls wd)(r2 c2:Nat)(hr2:inI r (ay Ls.length)=(r2:Int))(hc2:inI c (ay wd)=(c2:Int))(DX:r2<Ls.length)(hlc:c2<wd):RCt Z w Ls r c pd au K v r2 c2:=by
 unfold RCt;obtain ⟨ao,ca,rfl⟩:=hv.len;obtain ⟨n,hn⟩:=ae (Ls.length);obtain ⟨W,hW,hb,hx,hl0⟩:=gF w (.slice ao Ls.length ca) (.int .i64 r) (.int .i64 c) (.bool pd) (.bool au) (.slice none 0 0) (.int .i64 0) (.int .i64 0) (.bool false) (.bool false);obtain ⟨gb,hgb⟩:=ae (w.heap.size);obtain ⟨gz,DR⟩:=ae (w.heap.size+1);have HG:=ab (And.intro hgb DR);have CM:RB w Z gb gz Ls r c pd au ao ca W:=by
  refine ⟨by rw [hgb];exact hb,(hv.below hl0).zone (fun x _ hx=>⟨.inl hx,?_,?_⟩),by rw [DR];exact hx,hl0,by omega,by omega,by omega⟩
  ·have:=hZ x hx;omega
  ·have:=hZ x hx;omega
 have DM:=ab CM;have Ju:=ab Cc;have HN:=ab hn;have hw0:(Ls.getD 0 zl).1.length=wd:=Cc.2.2.2.2 0 Cc.1;obtain ⟨pd2,DZ⟩:=ae (cI c pd wd);have Ke:=ab (show Calls Tryz.prog 141 #[.agg #[.slice ao n ca,.int .i64 r,.int .i64 c,.bool pd,.bool au]] W (Gives W (.agg #[.slice ao n ca,.int .i64 r2,.int .i64 c2,.bool pd2,.bool au])) from by
  have h9:=iu _ (.slice ao Ls.length ca) Ls r c pd au W CM.2.1 Cc.1 wd hw0;rw [hr2,hc2,<-DZ] at h9;rw [hn];exact h9)
 have IW:=ab (show Calls Tryz.prog 162 #[.agg #[.slice ao n ca,.int .i64 r,.int .i64 c,.bool pd,.bool au]] W (qo (fun b=>((Z b\/w.heap.size<=b)/\b≠gb/\b≠gz)/\b<W.heap.size) W (dD Ls r2) (aW Ls r2:Nat) c2 false au) from by
  have h9:=ib _ (.slice ao Ls.length ca) Ls r c pd au W wd CM.arg (fun x hx=>hx.2) Cc r2 c2 hr2 hc2 DX;rw [hn];exact h9)
 obtain ⟨sk,hsk⟩:=ae (bT K);have E6:=ab (show ∀ w',Calls Tryz.prog 91 #[.int .i32 K] w' (Gives w' (.bool sk)) from fun w'=>by rw [hsk];exact eY K w');obtain ⟨RL,FF⟩:=ae (ctL Ls r2 K);obtain ⟨rr,DO⟩:=ae (ctR Ls r r2 K);obtain ⟨cc,hcc⟩:=ae (ctC c c2 K);obtain ⟨pp,Cj⟩:=ae (ctP pd K);have HE:=ab (by
  obtain ⟨t1,t2,t3,t4⟩:=yi Ls r c r2 c2 pd K hK;exact And.intro (FF.trans t1) (And.intro (DO.trans t2) (And.intro (hcc.trans t3) (Cj.trans t4))))
 have PG:=ab (show c2<=2000 from by have:=Cc.2.2.2.1;omega);rw [<-hsk,<-FF,<-DO,<-hcc,<-Cj];rw [<-hn] at hW ⊢;clear hv hZ Cc hr2 hc2 DX hlc hb hx hl0 hgb DR CM hn hw0 DZ hsk FF DO hcc Cj;have n13:(K == 13)=false:=by rw [beq_eq_false_iff_ne];exact hK.1
 have n10:(K == 10)=false:=by rw [beq_eq_false_iff_ne];exact hK.2.1
 have n8:(K == 8)=false:=by rw [beq_eq_false_iff_ne];exact hK.2.2
 clear hK
 go_enter Tryz.func98,Tryz.ntmps98
 go_upto_region 1 with (fail)
 rw [<-hW];clear hW;rw [<-HG.out.2];rw [<-HG.out.1]
 go_upto_region 11 with (fail)
 obtain ⟨Bz,BL⟩ : ∃ CC:Array Bool->World->Prop,CC=fun L8 w'=>Below w.heap.size w w'/\(Mix.one L8 3=0->RB w Z gb gz (Ls) r c pd au ao ca w')/\(Mix.one L8 3=1->Has w' gz [.slice ao n ca,.int .i64 r,.int .i64 c,.bool pd,.bool au] 43/\HeldE lineE (fun b=>Z b\/w.heap.size<=b) w' (.slice ao n ca) (Ls)):=⟨_,rfl⟩
 obtain ⟨DI,Dk,Dn,CG⟩:=Reg.xT;obtain ⟨DL,CF,BT,BS,BV,Cv,BU,_,_,_⟩:=Reg.e8 DI
  (fun xx _=>xx=.agg #[.slice ao n ca,.int .i64 r,.int .i64 c,.bool pd,.bool au])
  (fun xx _=>xx=.int .i32 K)
  (fun xx _=>xx=.bool sk)
  (fun xx _=>xx=undef)
  (fun xx _=>xx=.bool sk)
  (fun _ _=>True) (fun _ _=>True) (fun _ _=>True)
 have CH:Hid (∀ i L w,(i == 3)=false ->  Bz L w->Bz (L.setIfInBounds i true) w):=ab (by
  intro i L w q h;simp only [Bool.or_eq_false_iff,beq_eq_false_iff_ne] at q;rw [BL] at h ⊢;simp only [Mix.one_ne q];exact h)
 have Df:Hid (∀ L w w1,Bz L w->Below w.heap.size w w1->Bz L w1):=ab (by
  intro L w w1 h hb;rw [BL] at h ⊢
  (obtain ⟨q1,q2,q3⟩:=h;exact ⟨q1.trans (hb.mono q1.size),fun e=>(q2 e).below hb,fun e=>⟨(q3 e).1.below hb (q3 e).1.lt,(q3 e).2.below hb⟩⟩))
 have Dp:=ab (show Bz (Array.replicate 5 false) W.drew from by rw [BL];exact ⟨DM.out.2.2.2.1.trans ((Below.refl W.heap.size W).drew.mono DM.out.2.2.2.1.size),fun _=>DM.out.below (Below.refl _ _).drew,fun e=>absurd e (by decide)⟩);have B9:=ab (fun (i:Nat) L w v q (h:Bz L w) (e:DL i v w)=>Reg.hk (CH.out i L w q h) e (Dn.out w));have Bu:=ab BL;have Cy:=ab Dk;clear BL Dk
 go_wp2_with fail
 refine Reg.regionF DL Bz DI CF.out (by kernel_rfl) (by kernel_rfl) (by kernel_rfl) Dp.out (fun L4 Bx=>?_);simp only [Reg.frame,Reg.dsts,List.map_cons,List.map_nil,Mix.put_lit,Reg.put_none,List.set_cons_succ,List.set_cons_zero,Nat.zero_add,Nat.reduceAdd] at Bx;refine ⟨⟨?_,?_,?_,?_,?_,trivial⟩,?_⟩
 ·intro Lq wq xq hh;simp only [Bx];refine Reg.go rfl ?_;have hc:Bz Lq wq:=hh.cls;rw [Bu.out] at hc;have hq:=(hc.2.1 (Mix.one_un (hh.notYet 3 (by kernel_rfl)))).1;rw [<-HN.out] at hq;have q0:=hq.cell 0 _ rfl;have q1:=hq.cell 1 _ rfl;have q2:=hq.cell 2 _ rfl;have q3:=hq.cell 3 _ rfl;have q4:=hq.cell 4 _ rfl;clear hc;have HK:=B9.out 0 _ _ _ rfl hh.cls ((BT.out _ _).mpr rfl);go_simp;exact HK.out
 ·intro Lq wq xq hh;simp only [Bx];refine Reg.go rfl ?_;have HK:=B9.out 1 _ _ _ rfl hh.cls ((BS.out _ _).mpr rfl);go_simp;exact HK.out
 ·intro Lq wq xq hh;simp only [Bx,(BS.out _ _).mp (hh.v 1)];refine Reg.go rfl ?_;unfold Reg.upon;have hc:Bz Lq wq:=hh.cls;rw [Bu.out] at hc;go_simp;refine (E6.out wq).mono ?_;rintro e w2 ⟨rfl,hb⟩;exact ⟨_,rfl,CH.out 2 Lq w2 rfl  (Df.out Lq wq w2 hh.cls hb),(by rw [BV.out];try rfl),CG.out wq w2 hb⟩
 ·intro Lq wq xq hh;simp only [Bx,(BT.out _ _).mp (hh.v 0)];refine Reg.go rfl ?_;unfold Reg.upon;have hc:Bz Lq wq:=hh.cls;rw [Bu.out] at hc;have hq:=hc.2.1 hh.un;have s0:=hq.2.2.1.cell 0 _ rfl;have s1:=hq.2.2.1.cell 1 _ rfl;have s2:=hq.2.2.1.cell 2 _ rfl;have s3:=hq.2.2.1.cell 3 _ rfl;have s4:=hq.2.2.1.cell 4 _ rfl;have f0:=hq.2.2.1.free 0;have f1:=hq.2.2.1.free 1;have f2:=hq.2.2.1.free 2;have f3:=hq.2.2.1.free 3;have f4:=hq.2.2.1.free 4;have hv:=hq.2.1;rw [<-HN.out] at hv;have hF:Bz (Lq.setIfInBounds 3 true) (((((wq.setCell ⟨gz,0,none⟩ (.slice ao n ca)).setCell ⟨gz,1,none⟩ (.int .i64 r)).setCell ⟨gz,2,none⟩ (.int .i64 c)).setCell ⟨gz,3,none⟩ (.bool pd)).setCell ⟨gz,4,none⟩ (.bool au)):=by
   rw [Bu.out];refine ⟨iC hc.1 hq.2.2.2.2.2.1 _ _ _ _ _,fun e=>?_,fun _=>⟨cJ hq.2.2.1 _ _ _ _ _,(hv.upd (aR gz _ _ _ _ _) (fun b hz e=>hz.2.2 e)).zone (fun b _ hz=>hz.1)⟩⟩;rw [Mix.one_set (by rw [hh.size];decide)] at e;exact absurd e (by decide)
  have hE:DL 3 undef (((((wq.setCell ⟨gz,0,none⟩ (.slice ao n ca)).setCell ⟨gz,1,none⟩ (.int .i64 r)).setCell ⟨gz,2,none⟩ (.int .i64 c)).setCell ⟨gz,3,none⟩ (.bool pd)).setCell ⟨gz,4,none⟩ (.bool au)):=by rw [Cv.out]
  have hX:DI wq (((((wq.setCell ⟨gz,0,none⟩ (.slice ao n ca)).setCell ⟨gz,1,none⟩ (.int .i64 r)).setCell ⟨gz,2,none⟩ (.int .i64 c)).setCell ⟨gz,3,none⟩ (.bool pd)).setCell ⟨gz,4,none⟩ (.bool au)):=by rw [Cy.out];trivial
  clear hc hq hv;go_simp;exact ⟨hF,hE,hX⟩
 ·intro Lq wq xq hh;simp only [Bx,(BV.out _ _).mp (hh.v 2)];refine Reg.go rfl ?_;have HK:=B9.out 4 _ _ _ rfl hh.cls ((BU.out _ _).mpr rfl);go_simp;exact HK.out
 intro xq GW Dq Dm;rw [Bu.out] at Dq;simp only [Bx];have vrgs4:=(BU.out _ _).mp (Dm 4 (by decide));rw [vrgs4];clear Dm Bx B9 CH Dn CF Dp Bu Cy Df CG BT BS BV Cv BU;obtain ⟨AY,_,h3⟩:=Dq;obtain ⟨hr3,hv3⟩:=h3 (by kernel_rfl);have k0:=hr3.cell 0 _ rfl;have k1:=hr3.cell 1 _ rfl;have k2:=hr3.cell 2 _ rfl;have k3:=hr3.cell 3 _ rfl;have k4:=hr3.cell 4 _ rfl;have HF:=ab (And.intro (hv3.zone (Y:=fun b=>Z b\/(w.heap.size<=b/\b<GW.heap.size)) (fun b hlt hz=>by rcases hz with hz | hz;exact .inl hz;exact .inr ⟨hz,hlt⟩)) AY);clear hr3 hv3 h3 vrgs4;go_wp2;refine bodyPost_ret (v:=.tuple #[.agg #[.slice ao n ca,.int .i64 r,.int .i64 c,.bool pd,.bool au],.bool sk]) (by simp [results,Tryz.results98,go_sem,k0,k1,k2,k3,k4]) rfl ?_;rw [HE.out.1,HE.out.2.1,HE.out.2.2.1,HE.out.2.2.2];exact ⟨_,rfl,HF.out.1,HF.out.2⟩
theorem zC(Z:an)(v:Value)(Ls:List Ln)(r c:Int)(pd au:Bool)(K:Int)(w:World)(hv:HeldE lineE Z w v Ls)(hZ:∀ b,Z b->b<w.heap.size)(wd:Nat)(Cc:Even Ls wd)(r2 c2:Nat)(hr2:inI r (ay Ls.length)=(r2:Int))(hc2:inI c (ay wd)=(c2:Int))(DX:r2<Ls.length)(hlc:c2<wd):RCt Z w Ls r c pd au K v r2 c2:=by
 by_cases EW:K=13
 ·subst EW;exact Al Z v Ls r c pd au w hv hZ wd Cc r2 c2 hr2 hc2 DX hlc
 by_cases h10:K=10
 ·subst h10;exact Am Z v Ls r c pd au w hv hZ wd Cc r2 c2 hr2 hc2 DX hlc
 by_cases h8:K=8
 ·subst h8;exact AG Z v Ls r c pd au w hv hZ wd Cc r2 c2 hr2 hc2 DX hlc
 exact An Z v Ls r c pd au K ⟨EW,h10,h8⟩ w hv hZ wd Cc r2 c2 hr2 hc2 DX hlc
theorem ql(L p0 p:List Cl)(a0 a:Nat)(h0:a<=a0)(h1:a0+p0.length<=a+p.length):aN (aN L p0 a0) p a=aN L p a/\(a8 L p0 a0 || a8 (aN L p0 a0) p a)=a8 L p a:=by
 have Ce:∀ i,inP a0 p0.length i->inP a p.length i:=fun i h=>⟨Nat.le_trans h0 h.1,Nat.lt_of_lt_of_le h.2 h1⟩
 have Jz:∀ i,bW L a0 p0.length i->bW L a p.length i:=fun i h=>h.imp (fun h=>⟨h.1,Ce _ h.2⟩) (fun h=>⟨h.1,h.2.1,Ce _ h.2.2⟩)
 have CV:∀ i,i<L.length->¬ inP a p.length i->¬ bW L a0 p0.length i->(aN L p0 a0).getD i zc=L.getD i zc:=fun i hi hn ht=>by
  rw [dw L p0 a0 i hi];unfold bO;rw [if_neg (fun e=>hn (Ce i e)),if_neg ht]
 have hblank:∀ i,i<L.length->¬ inP a p.length i->bW L a0 p0.length i->(aN L p0 a0).getD i zc=zc:=fun i hi hn ht=>by
  rw [dw L p0 a0 i hi];unfold bO;rw [if_neg (fun e=>hn (Ce i e)),if_pos ht]
 have Jt:∀ i,i<L.length->¬ inP a p.length i->bW L a0 p0.length i->¬ bW (aN L p0 a0) a p.length i:=fun i hi hn ht e=>by
  unfold bW at e;rw [hblank i hi hn ht] at e
  rcases e with ⟨e,_⟩ | ⟨e,_⟩ <;> cases e
 have Nr:∀ i,i<L.length->¬ inP a p.length i->¬ bW L a0 p0.length i->(bW (aN L p0 a0) a p.length i↔bW L a p.length i):=fun i hi hn ht=>by
  unfold bW;rw [CV i hi hn ht]
 constructor
 ·apply List.ext_getElem
  ·rw [bR,bR,bR]
  ·intro i h2 h3;have hi:i<L.length:=by rw [bR] at h3;exact h3
   have e1:=dw (aN L p0 a0) p a i (by rw [bR];exact hi);have e2:=dw L p a i hi;have f1:(aN (aN L p0 a0) p a).getD i zc=(aN (aN L p0 a0) p a)[i]:=by simp [List.getD,List.getElem?_eq_getElem h2]
   have f2:(aN L p a).getD i zc=(aN L p a)[i]:=by simp [List.getD,List.getElem?_eq_getElem h3]
   rw [<-f1,<-f2,e1,e2];unfold bO
   by_cases hn:inP a p.length i
   ·rw [if_pos hn,if_pos hn]
   ·rw [if_neg hn,if_neg hn]
    by_cases ht:bW L a0 p0.length i
    ·rw [if_neg (Jt i hi hn ht),if_pos (Jz i ht)];exact hblank i hi hn ht
    ·by_cases KN:bW L a p.length i
     ·rw [if_pos ((Nr i hi hn ht).2 KN),if_pos KN]
     ·rw [if_neg (fun e=>KN ((Nr i hi hn ht).1 e)),if_neg KN];exact CV i hi hn ht
 ·rcases Nat.eq_zero_or_pos L.length with hz | hz
  ·obtain rfl:L=[]:=List.length_eq_zero_iff.1 hz;have Ky:aN [] p0 a0=[]:=rfl;rw [Ky]
   by_cases e:a8 [] p0 a0=true
   ·rw [e,Bool.true_or];unfold a8 at e ⊢;rw [Bool.or_eq_true,decide_eq_true_eq,decide_eq_true_eq] at e
    symm
    rw [Bool.or_eq_true,decide_eq_true_eq,decide_eq_true_eq];exact e.imp (Ce _) (Jz _)
   ·rw [Bool.eq_false_iff.2 e,Bool.false_or]
  ·unfold a8;rw [bR];have hi:L.length - 1<L.length:=by omega
   by_cases hn:inP a p.length (L.length - 1)
   ·rw [decide_eq_true hn,Bool.true_or,Bool.true_or,Bool.or_true]
   ·rw [decide_eq_false hn,decide_eq_false (fun e=>hn (Ce _ e)),Bool.false_or,Bool.false_or,Bool.false_or]
    by_cases ht:bW L a0 p0.length (L.length - 1)
    ·rw [decide_eq_true ht,decide_eq_true (Jz _ ht),Bool.true_or]
    ·rw [decide_eq_false ht,Bool.false_or];exact decide_eq_decide.2 (Nr _ hi hn ht)
theorem jC(Ls:List Ln)(r a0 a:Nat)(p0 p:List Cl)(hr:r<Ls.length)(h0:a<=a0)(h1:a0+p0.length<=a+p.length):cK (cK Ls r a0 p0) r a p=cK Ls r a p:=by
 obtain ⟨e1,e2⟩:=ql (Ls.getD r zl).1 p0 p a0 a h0 h1;have hg:(cK Ls r a0 p0).getD r zl=(aN (Ls.getD r zl).1 p0 a0,(Ls.getD r zl).2 && !a8 (Ls.getD r zl).1 p0 a0):=by
  unfold cK;rw [cy _ _ _ _ _ hr,if_pos rfl]
 have hq:∀ (K:List Ln) (x:Ln),K.getD r zl=x->cK K r a p=K.set r (aN x.1 p a,x.2 && !a8 x.1 p a):=fun K x e=>by subst e;rfl
 rw [hq _ _ hg,hq Ls _ rfl];show (cK Ls r a0 p0).set r (aN (aN (Ls.getD r zl).1 p0 a0) p a,((Ls.getD r zl).2 && !a8 (Ls.getD r zl).1 p0 a0) && !a8 (aN (Ls.getD r zl).1 p0 a0) p a)=_;rw [e1,Bool.and_assoc,<-Bool.not_or,e2];unfold cK;rw [List.set_set]
theorem sM(wd:Nat)(n:Int)(xs:List Int):((ofC (cx wd n) (iB wd n xs)).length:Int)=cx wd n:=by
 rw [oT]
 rcases er wd n with h | h
 ·rw [h];rfl
 ·rw [h.1];rfl
theorem uQ(wd:Nat){n0 n1:Int}(h:n0<=n1)(h0:0<wd):cx wd n0<=cx wd n1:=by
 unfold cx
 split <;> split <;> omega
theorem uR(Ls:List Ln)(wd r c:Nat)(pd au:Bool)(n0 n1:Int)(t0 t1:List Int)(hr:r<Ls.length)(hc:c<wd)(hn:n0<=n1) :
  fL (fL Ls wd r c pd au n0 t0) wd (fx Ls wd r c pd au n0) (dE wd c pd au n0) false au n1 t1=fL Ls wd r c pd au n1 t1 /\
  fx (fL Ls wd r c pd au n0 t0) wd (fx Ls wd r c pd au n0) (dE wd c pd au n0) false au n1=fx Ls wd r c pd au n1 /\
  dE wd (dE wd c pd au n0) false au n1=dE wd c pd au n1:=by
 have hlt:=rK (Ls:=Ls) pd au n0 t0 hr hc;have h1:=pY (Ls:=Ls) pd hr;have hc1:p1C c pd<wd:=by unfold p1C;split <;> omega
 have hm:=uQ wd hn (by omega);have hl0:=sM wd n0 t0;have E0:=sM wd n1 t1;have h2:=pZ (wd:=wd) (k:=cx wd n0) (c:=p1C c pd) au h1.1
 revert hlt
 unfold fL fx dE;rw [show ∀ L R,p1L L R false=L from fun _ _=>rfl,show ∀ L R,p1R L R false=R from fun _ _=>rfl,show ∀ C,p1C C false=C from fun _=>rfl];generalize p1L Ls r pd=M at *;generalize p1R Ls r pd=r1 at *;generalize p1C c pd=c1 at *;generalize ofC (cx wd n0) (iB wd n0 t0)=q0 at *;generalize ofC (cx wd n1) (iB wd n1 t1)=q1 at *;have k0:=er wd n0;have k1:=er wd n1;generalize cx wd n0=K0 at *;generalize cx wd n1=K1 at *;intro hlt
 by_cases hK:K0=K1
 ·subst hK;have hx:¬ (K0=2/\p2C wd K0 c1 au+1=wd):=by omega
  have e1:∀ L:List Ln,p2L wd K0 L (p2R wd K0 M r1 c1 au) (p2C wd K0 c1 au) au=L:=fun L=>by
   conv=>lhs;unfold p2L
   exact if_neg hx
  have e2:∀ L:List Ln,p2R wd K0 L (p2R wd K0 M r1 c1 au) (p2C wd K0 c1 au) au=p2R wd K0 M r1 c1 au:=fun L=>by
   conv=>lhs;unfold p2R
   exact if_neg hx
  have e3:p2C wd K0 (p2C wd K0 c1 au) au=p2C wd K0 c1 au:=by
   conv=>lhs;unfold p2C
   exact if_neg hx
  rw [e1,e2,e3];exact ⟨jC _ _ _ _ _ _ h2.1 (Nat.le_refl _) (by omega),rfl,rfl⟩
 ·obtain ⟨rfl,rfl⟩ : K0=1/\K1=2:=by omega
  have n1:¬ ((1:Int)=2/\c1+1=wd):=fun h=>absurd h.1 (by decide)
  have e1:p2L wd 1 M r1 c1 au=M:=by unfold p2L;exact if_neg n1
  have e2:p2R wd 1 M r1 c1 au=r1:=by unfold p2R;exact if_neg n1
  have e3:p2C wd 1 c1 au=c1:=by unfold p2C;exact if_neg n1
  rw [e1,e2,e3]
  by_cases hw:c1+1=wd
  ·have hx:(2:Int)=2/\c1+1=wd:=⟨rfl,hw⟩;unfold p2L p2R p2C;rw [if_pos hx,if_pos hx,if_pos hx,if_pos hx,if_pos hx]
   cases au
   ·rw [if_neg (by decide),if_neg (by decide),if_neg (by decide)];exact ⟨jC _ _ _ _ _ _ h1.1 (by omega) (by omega),rfl,rfl⟩
   ·rw [if_pos rfl,if_pos rfl,if_pos rfl,if_pos rfl,if_pos rfl];have hz:cK (cK M r1 c1 q0) r1 c1 [zc]=cK M r1 c1 [zc]:=jC _ _ _ _ _ _ h1.1 (Nat.le_refl _) (by show c1+q0.length<=c1+1;omega);rw [hz];have hd:aW (cK M r1 c1 q0) r1=aW M r1:=by unfold aW;rw [cY]
    rw [hd];exact ⟨rfl,rfl,rfl⟩
  ·have hx:¬ ((2:Int)=2/\c1+1=wd):=fun h=>hw h.2
   unfold p2L p2R p2C;rw [if_neg hx,if_neg hx,if_neg hx,if_neg hx,if_neg hx];exact ⟨jC _ _ _ _ _ _ h1.1 (Nat.le_refl _) (by omega),rfl,rfl⟩
end Go.Proofs.YtoeggiplcaegoaaGreatDoor
