import Derived.Test.YthdphijabffpiaaDoorZ0
import Derived.Test.YthdphijabffpiaaDoorCellP
import Derived.Test.YthdphijabffpiaaDoorMg1
import Derived.Test.YthdphijabffpiaaDoorErrS
import Derived.Deep.Cut
import Derived.Deep.CutRange
import Derived.Deep.MidRow
import Derived.Test.YthdphijabffpiaaDoorCellO
import Derived.Lib.MinMax
import Derived.Test.YthdphijabffpiaaDoorRowR
set_option maxRecDepth 100000
set_option linter.unusedVariables false
set_option linter.unusedSimpArgs false
set_option maxHeartbeats 1600000
namespace Go.Proofs.YthdphijabffpiaaDoor
open Go.RowKit Go.ChangeShapes Go.WideShapes
theorem HeldE.ownedInts{B:Nat}{w:World}{n:Nat}{v:Value}{ty:TypeId}{xs:List Int}(h:w.ownsRow B ty 1 v n (xs.map (Value.int .i32))):HeldE (be .i32) (fun b=>B<=b) w v xs:=(cK (Z:=fun b=>B<=b) h).held fun _ hb _=>hb
theorem OwnE.some{α:Type}{E:Elem α}{Z:aj}{w:World}{B:Nat}{ty:TypeId}{v:Value}{L:List α}(h:OwnE E Z w B ty v L)(hl:0<L.length):∃ g cap,v=.slice (some ⟨g,0,none⟩) L.length cap/\B<=g/\g<w.heap.size:=by
 obtain ⟨CS,h1,_⟩:=h
 rcases h1.2 with ⟨rfl,h0⟩ | ⟨g,cap,cur,rfl,hB,hg,_⟩
 ·omega
 ·exact ⟨g,cap,rfl,hB,(Array.getElem?_eq_some_iff.1 hg).1⟩
theorem OwnE.zone{α:Type}{E:Elem α}{Z Y:aj}{w:World}{B:Nat}{ty:TypeId}{v:Value}{L:List α}(h:OwnE E Z w B ty v L)(hy:∀ b,b<w.heap.size->Z b->Y b):OwnE E Y w B ty v L:=h.keep (.refl _ _) hy
def bR(c:Cl):List Cl:=if c.1<2 then [(1,c.2)] else if c.1=2 then [(2,c.2)] else []
def an(L:List Cl):List Cl:=L.flatMap bR
theorem fd(c:Cl):(bR c).length<=1:=by
 unfold bR
 split
 ·simp
 ·split <;> simp
theorem cP(L:List Cl):(an L).length<=L.length:=by
 unfold an
 induction L with
 |nil=>simp
 |cons c L ih =>
  rw [List.flatMap_cons,List.length_append,List.length_cons];have:=fd c;omega
theorem dx(L:List Cl)(k:Nat)(h:k<L.length):an (L.take (k+1))=an (L.take k)++bR (L.getD k zc):=by
 unfold an;rw [List.take_succ_eq_append_getElem h,List.flatMap_append]
 simp [List.getD,List.getElem?_eq_getElem h]
theorem aW:(Tryd.prog.info? 59).map (fun i=>(i.zero,i.size,i.bytes))=some (some (.agg #[.int .i64 0,.slice none 0 0]),cellE.size,32):=by kernel_rfl
theorem fS(Z:aj)(v:Value)(L:List Cl)(w:World)(hZ:∀ b,w.heap.size<=b->Z b)(hv:HeldE cellE Z w v L)(hl:L.length<=1000000):Calls Tryd.prog 61 #[v] w (ei cellE Z 59 w (an L)):=by
 have hv:=hv.zone (Y:=fun b=>Z b/\b<w.heap.size) (fun b hb hz=>⟨hz,hb⟩);obtain ⟨ao,cap,rfl⟩:=hv.len;obtain ⟨_,_,hc⟩:=aB hv;have HC:=aa hc;have HZ:=aa hZ;clear hc hv hZ
 go_enter Tryd.func61,Tryd.ntmps61
 go_wp2
 go_loopw [3,4] (fun t i wr=>∃ k:Nat,k<=L.length/\i=.int .i64 k/\OwnE cellE Z wr w.heap.size 59 t (an (L.take k))/\Below w.heap.size w wr) (fun _ i _=>L.length - (intOf i).toNat)
 case atStart=>exact ⟨0,Nat.zero_le _,rfl,OwnE.nil _ _ _ _ _,Below.refl _ _⟩
 case round =>
  obtain ⟨k,hk,rfl,hown,g3⟩:=hrel;have gW:=aa g3;clear g3
  by_cases hlt:k<L.length
  ·obtain ⟨b,off,tv,rfl,hb,_,c0,c1,hh⟩:=HC.out k hlt;have hs:=dx L k hlt;have hlen:(an (L.take k)).length<=1000000:=by have:=cP (L.take k);rw [List.length_take] at this;omega
   obtain ⟨⟨K,T⟩,ic⟩ : ∃ y,y=L.getD k zc:=⟨_,rfl⟩;rw [<-ic] at c0 hh hs;simp only at c0 hh;unfold bR at hs
   dsimp only at hs
   have HT:=aa hh;obtain ⟨tz9,tc,rfl⟩:=hh.len;have HF:=aa (show ∀ w2,Below w.heap.size w w2->w2.cell? ⟨b,off+k * 2,none⟩=some (.int .i64 K)/\w2.cell? ⟨b,off+k * 2+1,none⟩=some (.slice tz9 T.length tc) from fun w2 h=>⟨(h.cell (p:=⟨b,off+k * 2,none⟩) hb).trans c0,(h.cell (p:=⟨b,off+k * 2+1,none⟩) hb).trans c1⟩);obtain ⟨P0,hP⟩:=ab (an (L.take k));rw [<-hP] at hown hs hlen;obtain ⟨t,ht⟩:=ab (u3);rw [<-ht] at hown ⊢;have jx:=hown.lt;clear hP ic hh c0 c1 hb ht;obtain ⟨c0,c1⟩:=HF.out wr gW.out
   by_cases h2:K<2
   ·rw [if_pos h2] at hs;have HS:=aa hs;have jp:decide (K<2)=true:=by rw [decide_eq_true_eq];exact h2
    have hk2:(K == 2)=false:=by rw [beq_eq_false_iff_ne];omega
    clear hs h2;have HX:=aa (show HeldE cellE (fun b=>Z b/\t.ownBlock≠some b) (wr.alloc (.cells [Value.int .i64 1,.slice tz9 T.length tc].toArray 59)) (.slice (some ⟨wr.heap.size,0,none⟩) 1 1) [(1,T)] from ax (Y:=fun b=>Z b/\b<w.heap.size) [.int .i64 1,.slice tz9 T.length tc] (1,T) (cell_rep.2 ⟨_,rfl,HT.out.below gW.out⟩) (fun b _ hy=>⟨hy.1,fun e=>by have:=(jx _ e).1;omega⟩) ⟨HZ.out _ gW.out.size,fun e=>by have:=(jx _ e).2;omega⟩);have HO:=aa (hown.below (af wr (.cells [Value.int .i64 1,.slice tz9 T.length tc].toArray 59)));have gZ:=aa (gW.out.alloc gW.out.size (.cells [Value.int .i64 1,.slice tz9 T.length tc].toArray 59));clear hown jx
    go_wp2_with (at_builtin;refine ai (E:=cellE) (Z:=Z) rfl (.tmp 17) (.tmp 24) 53 rfl (.agg #[.int .i64 0,.slice none 0 0]) 32 Tryd.underlying53 aW rfl (by decide) rfl rfl HO.out HX.out (by simp;omega) (by simp;omega) gZ.out.size ?_)
    intro v2 w2 ig hb2 _ _;have hb3:=gZ.out.trans hb2;rw [<-HS.out] at ig;have H2:=aa ig;have H3:=aa hb3;clear ig hb2 hb3 c0 c1;obtain ⟨c0,c1⟩:=HF.out w2 H3.out;go_wp2
    go_roundw
    case rel=>exact ⟨k+1,by omega,by go_num,H2.out,H3.out⟩
    case measure=>simp [intOf] <;> omega
   rw [if_neg h2] at hs
   by_cases h3:K=2
   ·rw [if_pos h3] at hs;have HS:=aa hs;have jp:decide (K<2)=false:=by rw [decide_eq_false_iff_not];exact h2
    have hk2:(K == 2)=true:=by rw [beq_iff_eq];exact h3
    clear hs h2 h3;have HX:=aa (show HeldE cellE (fun b=>Z b/\t.ownBlock≠some b) (wr.alloc (.cells [Value.int .i64 2,.slice tz9 T.length tc].toArray 59)) (.slice (some ⟨wr.heap.size,0,none⟩) 1 1) [(2,T)] from ax (Y:=fun b=>Z b/\b<w.heap.size) [.int .i64 2,.slice tz9 T.length tc] (2,T) (cell_rep.2 ⟨_,rfl,HT.out.below gW.out⟩) (fun b _ hy=>⟨hy.1,fun e=>by have:=(jx _ e).1;omega⟩) ⟨HZ.out _ gW.out.size,fun e=>by have:=(jx _ e).2;omega⟩);have HO:=aa (hown.below (af wr (.cells [Value.int .i64 2,.slice tz9 T.length tc].toArray 59)));have gZ:=aa (gW.out.alloc gW.out.size (.cells [Value.int .i64 2,.slice tz9 T.length tc].toArray 59));clear hown jx
    go_wp2_with (at_builtin;refine ai (E:=cellE) (Z:=Z) rfl (.tmp 32) (.tmp 39) 53 rfl (.agg #[.int .i64 0,.slice none 0 0]) 32 Tryd.underlying53 aW rfl (by decide) rfl rfl HO.out HX.out (by simp;omega) (by simp;omega) gZ.out.size ?_)
    intro v2 w2 ig hb2 _ _;have hb3:=gZ.out.trans hb2;rw [<-HS.out] at ig;have H2:=aa ig;have H3:=aa hb3;clear ig hb2 hb3 c0 c1;obtain ⟨c0,c1⟩:=HF.out w2 H3.out;go_wp2
    go_roundw
    case rel=>exact ⟨k+1,by omega,by go_num,H2.out,H3.out⟩
    case measure=>simp [intOf] <;> omega
   rw [if_neg h3,List.append_nil] at hs;have jp:decide (K<2)=false:=by rw [decide_eq_false_iff_not];exact h2
   have hk2:(K == 2)=false:=by rw [beq_eq_false_iff_ne];exact h3
   rw [<-hs] at hown;have HO:=aa hown;clear hs h2 h3 hown jx;go_wp2
   go_roundw
   case rel=>exact ⟨k+1,by omega,by go_num,HO.out,gW.out⟩
   case measure=>simp [intOf] <;> omega
  ·have he:an (L.take k)=an L:=by rw [List.take_of_length_le (by omega)]
   rw [he] at hown;have HO:=aa hown;clear he hown;go_wp2;go_ret;exact ⟨_,rfl,HO.out,gW.out⟩
def aO(c:Cl):Bool:=if c.2.length=0 then c.1 == 1 else (c.1 == 1 || c.1 == 2) && ap (1,c.2)
def ec(M:List Cl):List Cl:=M.flatMap fun c=>ofC c.1 c.2
theorem eH:∀ (n:Nat) (L:List Cl),L.length<=n->al L=true->(∀ c ∈ an L,aO c=true)/\ec (an L)=L:=by
 intro n
 induction n with
 |zero =>
  intro L hl _;have:L=[]:=List.eq_nil_of_length_eq_zero (by omega);subst this;exact ⟨fun c hc=>absurd hc (List.not_mem_nil),rfl⟩
 |succ n ih =>
  intro L hl hs
  cases L with
  |nil=>exact ⟨fun c hc=>absurd hc (List.not_mem_nil),rfl⟩
  |cons c L =>
   unfold al aM at hs;simp only [Bool.and_eq_true] at hs;obtain ⟨⟨hr1,h3⟩,hs⟩:=hs;simp only [List.length_cons] at hl;have hi:an (c :: L)=bR c++an L:=by unfold an;rw [List.flatMap_cons]
   have hst:∀ (x:Cl) (M:List Cl),ec (x :: M)=ofC x.1 x.2++ec M:=fun x M=>by unfold ec;rw [List.flatMap_cons]
   obtain ⟨K,t⟩:=c
   rcases bQ hr1 with ⟨hk,ht⟩ | ⟨hk,h0,ks,hv⟩
   ·simp only at hk ht;subst ht
    rcases hk with rfl | rfl
    ·obtain ⟨i1,i2⟩:=ih L (by omega) hs;rw [hi,show bR (0,[])++an L=(1,[]) :: an L from rfl,hst,i2];refine ⟨fun c hc=>?_,by rw [show ofC 1 []=[zc] from by decide];rfl⟩
     rcases List.mem_cons.1 hc with rfl | hc
     ·rfl
     ·exact i1 c hc
    ·simp at h3
   ·simp only at hk h0 ks hv;have ho:=fun (wide:Int)=>gq (wide:=wide) (t:=t) h0 ks
    rw [fQ hv] at ho;have hri:∀ x:Int,x=1\/x=2->aO (x,t)=true:=fun x hx=>by
     unfold aO;rw [if_neg (by simp only;omega)];have:ap (1,t)=true:=by
      rw [cl (.inl rfl),hv];simp only [Bool.and_true,Bool.and_eq_true,decide_eq_true_eq];exact ⟨h0,ks⟩
     rw [this]
     rcases hx with rfl | rfl <;> rfl
    rcases hk with rfl | rfl
    ·obtain ⟨i1,i2⟩:=ih L (by omega) hs;rw [hi,show bR (1,t)++an L=(1,t) :: an L from rfl,hst,i2];refine ⟨fun c hc=>?_,by rw [ho];rfl⟩
     rcases List.mem_cons.1 hc with rfl | hc
     ·exact hri 1 (.inl rfl)
     ·exact i1 c hc
    ·have hs:aM true L=true:=hs
     cases L with
     |nil=>cases hs
     |cons d L =>
      unfold aM at hs;simp only [Bool.and_eq_true] at hs;obtain ⟨⟨hd1,mo⟩,hs⟩:=hs;obtain ⟨K',t'⟩:=d;have hk':K'=3:=by simpa using mo
      subst hk';have lY:t'=[]:=by
       rcases bQ hd1 with ⟨_,e⟩ | ⟨e,_⟩
       ·exact e
       ·simp at e
      subst lY;simp only [List.length_cons] at hl;obtain ⟨i1,i2⟩:=ih L (by omega) hs;have lp:an ((2,t) :: (3,[]) :: L)=(2,t) :: an L:=rfl;rw [lp,hst,i2];refine ⟨fun c hc=>?_,by rw [ho];rfl⟩
      rcases List.mem_cons.1 hc with rfl | hc
      ·exact hri 2 (.inr rfl)
      ·exact i1 c hc
theorem fm(Z Y:aj)(v u:Value)(a b:List Cl)(w:World)(hx:HeldE cellE Z w v a)(hy:HeldE cellE Y w u b):Calls Tryd.prog 28 #[v,u] w (Gives w (.bool (bM a b))):=by
 have l7:=hx.max;obtain ⟨ao,ca,rfl⟩:=hx.len;obtain ⟨bo,cb,rfl⟩:=hy.len;obtain ⟨_,_,hc⟩:=aB hx;obtain ⟨_,_,hd⟩:=aB hy;have HC:=aa hc;have HD:=aa hd;clear hc hd hx hy
 by_cases hl:b.length=a.length
 ·have HL:=aa hl;rw [hl];clear hl
  go_enter Tryd.func28,Tryd.ntmps28
  go_wp2
  go_loopw [5] (fun i wr=>∃ k:Nat,k<=a.length/\i=.int .i64 k/\AlikeC a b k/\Below w.heap.size w wr) (fun i _=>a.length - (intOf i).toNat)
  case atStart=>exact ⟨0,Nat.zero_le _,rfl,(fun j hj=>by omega),Below.refl _ _⟩
  case round =>
   obtain ⟨k,hk,rfl,jk,g3⟩:=hrel;have HA:=aa jk;have gW:=aa g3;clear jk g3
   by_cases hlt:k<a.length
   ·obtain ⟨b1,o1,tv,rfl,hb1,_,c0,c1,hh⟩:=HC.out k hlt;obtain ⟨b2,o2,tu,rfl,hb2,_,d0,d1,hi⟩:=HD.out k (by rw [HL.out];exact hlt);have hlen:=hh.max;have hh:=hh.ints;have hi:=hi.ints;have c0:=(gW.out.cell (p:=⟨b1,o1+k * 2,none⟩) hb1).trans c0;have c1:=(gW.out.cell (p:=⟨b1,o1+k * 2+1,none⟩) hb1).trans c1;have d0:=(gW.out.cell (p:=⟨b2,o2+k * 2,none⟩) hb2).trans d0;have d1:=(gW.out.cell (p:=⟨b2,o2+k * 2+1,none⟩) hb2).trans d1;have jl:=HA.out.next;have hno:=dN (a:=a) (b:=b) k;obtain ⟨⟨K,T⟩,ic⟩ : ∃ y,y=a.getD k zc:=⟨_,rfl⟩;obtain ⟨⟨K',T'⟩,iY⟩ : ∃ y,y=b.getD k zc:=⟨_,rfl⟩;rw [<-ic] at c0 hh hlen jl hno;rw [<-iY] at d0 hi jl hno;simp only at c0 hh hlen d0 hi;have HH:=aa (hh.below gW.out);have HI:=aa (hi.below gW.out);have jY:=aa jl;have jH:=aa hno;clear ic iY hh hi jl hno;obtain ⟨wk,kU⟩:=ab (wr);subst kU;have c0:=aw c0;have c1:=aw c1;have d0:=aw d0;have d1:=aw d1
    by_cases hk:K=K'
    ·subst hk;have jQ:(K != K)=false:=by simp
     have HQ:=aa (fun u:Growth wk=>eq tv tu T T' (ext wk u) (HH.out.below u.ok) (HI.out.below u.ok) hlen)
     cases hs:cd T T' with
     |true =>
      have HS:=aa hs;rw [hs] at HQ;clear hs;go_wp2;refine aq (by kernel_rfl) (by kernel_rfl) ?_
      repeat (go_big_quiet_step (((go_at_call 37;exact dq (HQ.out _)))))
      refine wpQuiet_nil ?_;intro _ hw';obtain ⟨u,hw''⟩:=hw';subst hw'';have HE:=aa (aG gW.out u);go_wp2
      go_roundw
      case rel=>exact ⟨k+1,by omega,by go_num,jY.out (by have:=of_decide_eq_true HS.out;rw [this]),HE.out⟩
      case measure=>simp [intOf];omega
     |false =>
      have HS:=aa hs;rw [hs] at HQ;clear hs;go_wp2;refine aq (by kernel_rfl) (by kernel_rfl) ?_
      repeat (go_big_quiet_step (((go_at_call 37;exact dq (HQ.out _)))))
      refine wpQuiet_nil ?_;intro _ hw';obtain ⟨u,hw''⟩:=hw';subst hw'';have HE:=aa (aG gW.out u);go_wp2;go_ret;exact ⟨ak (by rw [jH.out (fun e=>of_decide_eq_false HS.out (congrArg Prod.snd e))];try rfl),HE.out⟩
    ·have jQ:(K != K')=true:=by simpa using hk
     have HK:=aa hk;clear hk;go_wp2;refine aq (by kernel_rfl) (by kernel_rfl) ?_
     repeat (go_big_quiet_step ((fail)))
     refine wpQuiet_nil ?_;intro _ hw';obtain ⟨u,hw''⟩:=hw';subst hw'';have HE:=aa (aG gW.out u);go_wp2;go_ret;exact ⟨ak (by rw [jH.out (fun e=>HK.out (congrArg Prod.fst e))];try rfl),HE.out⟩
   ·obtain rfl:k=a.length:=by omega
    have E:=aa (eD HL.out HA.out);go_wp2;go_ret;exact ⟨ak (by rw [E.out];try rfl),gW.out⟩
 ·have E:=aa (dO hl);have hl2:¬ a.length=b.length:=fun h=>hl h.symm
  go_enter Tryd.func28,Tryd.ntmps28
  go_wp2;go_ret;exact ⟨ak (by rw [E.out];try rfl),Below.refl _ _⟩
section
section
variable {Z Y S : aj} {w w' : World} {B g gc : Nat} {L : List Cl} {wrap : Bool}
end
theorem et{L:List Cl}(h:al L=true):∀ k,k<L.length->ap (L.getD k zc)=true:=by
 intro k hk;rw [cI] at h;have:=dT hk h;unfold cH at this;simp only [Bool.and_eq_true] at this;exact this.1.1
theorem ew{c:Cl}(h:ap c=true):c.2.length<=16:=by
 obtain ⟨k,t⟩:=c;unfold ap at h
 split at h
 ·simp at h;simp [h]
 ·simp only [Bool.and_eq_true,decide_eq_true_eq] at h;exact h.1.2
end
section
section
variable (sa : Nat → Addr) (Y : aj) (L : List Cl) (v : Value) (w : World)
end
end
section
section
variable {Z : aj} {w wx wy : World} {B g gc n cap : Nat} {L1 : List Cl} {wrap : Bool}
end
section
variable (sa : Nat → Addr) (Z Y : aj) (B g gc : Nat) (L p : List Cl) (wrap : Bool) (at_ : Int) (v : Value) (w : World)
end
end
section
variable {Yo : aj}
abbrev Ln:=List Cl × Bool
abbrev zl:Ln:=([],false)
def lineE:Elem Ln:=prE cellsE gF
theorem line_rep{Z:aj}{w:World}{C:List Value}{x:Ln}:lineE.rep Z w C x↔∃ v,C=[v,.bool x.2]/\HeldE cellE Z w v x.1:=by
 constructor
 ·rintro ⟨C1,C2,rfl,⟨v,rfl,h⟩,rfl⟩;exact ⟨v,rfl,h⟩
 ·rintro ⟨v,rfl,h⟩;exact ⟨[v],[_],rfl,⟨v,rfl,h⟩,rfl⟩
theorem aL{Z:aj}{w:World}{ao:Option Addr}{n cap:Nat}{L:List Ln}(h:HeldE lineE Z w (.slice ao n cap) L):n=L.length/\n<=cap/\∀ i,i<L.length->∃ b off v,ao=some ⟨b,off,none⟩/\b<w.heap.size/\Z b /\
  w.cell? ⟨b,off+i * 2,none⟩=some v/\w.cell? ⟨b,off+i * 2+1,none⟩=some (.bool (L.getD i zl).2)/\HeldE cellE Z w v (L.getD i zl).1:=by
 obtain ⟨h1,h2,h3⟩:=h.spots;refine ⟨h1,h2,fun i hi=>?_⟩;obtain ⟨b,off,rfl,hb,hz,C,hC,hr⟩:=h3 i hi;obtain ⟨v,rfl,ht⟩:=line_rep.1 hr;exact ⟨b,off,v,rfl,hb,hz,hC 0 (by decide),hC 1 (by decide),ht⟩
structure Rw where
 g:Nat
 gc:Nat
 L:List Cl
 wrap:Bool
def r0:Rw:=⟨0,0,[],false⟩
section
variable {Z Y S : aj} {w w' : World} {B : Nat} {Rs : List Rw}
end
section
variable {S : aj} {w w' : World} {B gg gr wd : Nat} {Rs : List Rw}
end
end
section
section
variable {w w' : World} {B gg wd : Nat} {v : Value} {Xs : List (Option Nat)} {Rs : List Rw}
theorem dk{b:Nat}{C D:Array Value}{t u:TypeId}(h:w.heap[b]? = some (.cells C t (0,0)))(k:w.heap[b]? = some (.cells D u (0,0)))(hn:t≠u):False:=by
 rw [h] at k;simp only [Option.some.injEq,Obj.cells.injEq] at k;exact hn k.2.1
end
end
section
variable {Yo : aj}
theorem bX{α:Type}(l:List α)(d x:α)(i j:Nat)(hi:i<l.length):(l.set i x).getD j d=if j=i then x else l.getD j d:=by
 by_cases e:j=i
 ·subst e;rw [if_pos rfl]
  simp [List.getD,List.getElem?_set_self hi]
 ·rw [if_neg e]
  simp [List.getD,List.getElem?_set_ne (Ne.symm e)]
end
end Go.Proofs.YthdphijabffpiaaDoor
