import Derived.Test.YtechjomepdahiaaDoorZ0
import Derived.Test.YtechjomepdahiaaDoorMg6
import Derived.Test.YtechjomepdahiaaDoorMg2
import Derived.Test.YtechjomepdahiaaDoorMg3
import Derived.ProofKit
import Derived.Lib.MinMax
import Derived.Deep.Cut
set_option maxRecDepth 100000
set_option linter.unusedVariables false
set_option linter.unusedSimpArgs false
set_option maxHeartbeats 1500000
namespace Go.Proofs.YtechjomepdahiaaDoor
open Go.RowKit Go.ChangeShapes Go.WideShapes
abbrev BOwn(w:World)(B:Nat)(v:Value)(xs:List Int):Prop:=OwnE (a8 .u8) (fun _=>True) w B 5 v xs
def Stp(B:Nat)(w:World)(v:Value)(w':World)(v':Value):Prop:=Below B w w'/\∀ b,b<w.heap.size->v.ownBlock≠some b->w'.heap[b]? = w.heap[b]? /\ v'.ownBlock≠some b
def WAp(B:Nat)(v:Value)(w:World)(xs:List Int)(e:Ending)(w':World):Prop:=∃ v',e=.returned v'/\BOwn w' B v' xs/\Stp B w v w' v'
section
variable {B : Nat} {w w1 w2 : World} {v v1 v2 : Value}
theorem Stp.refl(B:Nat)(w:World)(v:Value):Stp B w v w v:=⟨Below.refl _ _,fun _ _ h=>⟨rfl,h⟩⟩
theorem Stp.trans(h:Stp B w v w1 v1)(k:Stp B w1 v1 w2 v2):Stp B w v w2 v2:=⟨h.1.trans k.1,fun b hb hv=>by
 obtain ⟨h1,h2⟩:=h.2 b hb hv;obtain ⟨k1,k2⟩:=k.2 b (Nat.lt_of_lt_of_le hb h.1.size) h2;exact ⟨k1.trans h1,k2⟩⟩
theorem Stp.bel(h:Below w.heap.size w w1)(hB:B<=w.heap.size):Stp B w v w1 v:=⟨h.mono hB,fun b hb hv=>⟨h.block b hb,hv⟩⟩
theorem Stp.keep(h:Stp B w v w1 v1):KeepZ (fun b=>v.ownBlock≠some b) w w1:=⟨h.1.size,fun b hb hv=>(h.2 b hb hv).1⟩
theorem Stp.held{α:Type}{E:Elem α}{Z:an}{u:Value}{M:List α}(h:Stp B w v w1 v1)(hu:HeldE E Z w u M)(hz:∀ b,Z b->v.ownBlock≠some b):HeldE E (fun b=>Z b/\v1.ownBlock≠some b) w1 u M :=
 hu.keep (h.keep.mono fun b _ hb=>hz b hb) (fun b hb hZ=>⟨hZ,(h.2 b hb (hz b hZ)).2⟩)
theorem Stp.has(h:Stp B w v w1 v1){g:Nat}{C:List Value}{t:TypeId}(hg:Has w g C t)(hv:v.ownBlock≠some g):Has w1 g C t/\v1.ownBlock≠some g:=⟨h.keep.has hg hv,(h.2 g hg.lt hv).2⟩
theorem BOwn.is{xs:List Int}(h:BOwn w B v xs):Held .u8 w v xs:=gj h.ints
theorem BOwn.off{xs:List Int}(h:BOwn w B v xs){g:Nat}(hg:w.heap.size<=g):v.ownBlock≠some g:=fun e=>by have:=(h.lt g e).2;omega
theorem BOwn.one(w:World)(B:Nat)(x:Int)(hB:B<=w.heap.size):BOwn (w.alloc (.cells [Value.int .u8 x].toArray 5)) B (.slice (some ⟨w.heap.size,0,none⟩) 1 1) [x] :=
 OwnE.lit (Z:=fun _=>True) (B:=B) (ty:=5) w (a8 .u8) [[.int .u8 x]] [x] 1 rfl rfl hB (by decide) (fun i hi=>match i,hi with | 0,_=>rfl) _ rfl
end
theorem dJ{B:Nat}{w:World}{v:Value}{xs:List Int}{ops:Array Oper}{rest:List Oper}{o:Oper}{a:Act}{Q:Exit->Act->World->Prop}(hgd:o.guard=none)(s x:Operand)(t:TypeId)
  (ho:o.op=.call { callee:=.builtin .append,args:=#[s,x],argTypes:=#[t,t] }) (ht:Tryd.prog.underlying t=some (.slice 5)) (c:Int)
  (hs:a.eval s=v) (hx:a.eval x=.slice (some ⟨w.heap.size,0,none⟩) 1 1) (hv:BOwn w B v xs) (hn:xs.length<=100000000000) (hB:B<=w.heap.size)
  (h:∀ v' w',BOwn w' B v' (xs++[c])->Stp B w v w' v'->wpList Tryd.prog ops Q rest (a.put o.dst v') w') :
  wpList Tryd.prog ops Q (o :: rest) a (w.alloc (.cells #[.int .u8 c] 5)):=by
 have hb:Below w.heap.size w (w.alloc (.cells #[.int .u8 c] 5)):=l7 _ _;have hu:=cE (E:=a8 .u8) (w:=w) (ty:=5) (Y:=fun _=>False) (Z:=fun b=>True/\v.ownBlock≠some b) [.int .u8 c] c rfl (fun _ _ h=>h.elim) ⟨trivial,hv.off (Nat.le_refl _)⟩;refine bR (E:=a8 .u8) (Z:=fun _=>True) hgd s x t ho (.int .u8 0) 1 ht Tryd.info5 rfl (by decide) hs hx (hv.below hb) hu (by simp;omega) (by simp;omega) (Nat.le_trans hB hb.size) ?_;intro v' w' h1 h2 h3 h4;exact h v' w' h1 ⟨(hb.mono hB).trans h2,fun b hlt hne=>by
  have hlt2:b<(w.alloc (.cells #[.int .u8 c] 5)).heap.size:=Nat.lt_of_lt_of_le hlt hb.size;exact ⟨(h3.block b hlt2 hne).trans (hb.block b hlt),h4 b hlt2 hne⟩⟩
theorem bq{B:Nat}{w:World}{v u:Value}{xs ys:List Int}{Z:an}{ops:Array Oper}{rest:List Oper}{o:Oper}{a:Act}{Q:Exit->Act->World->Prop}(hgd:o.guard=none)(s x:Operand)(t:TypeId)
  (ho:o.op=.call { callee:=.builtin .append,args:=#[s,x],argTypes:=#[t,t] }) (ht:Tryd.prog.underlying t=some (.slice 5))
  (hs:a.eval s=v) (hx:a.eval x=u) (hv:BOwn w B v xs) (hu:HeldE (a8 .u8) Z w u ys) (hz:∀ b,Z b->v.ownBlock≠some b) (hn:xs.length+ys.length<=100000000000) (hB:B<=w.heap.size)
  (h:∀ v' w',BOwn w' B v' (xs++ys)->Stp B w v w' v'->wpList Tryd.prog ops Q rest (a.put o.dst v') w') :
  wpList Tryd.prog ops Q (o :: rest) a w:=by
 refine bR (E:=a8 .u8) (Z:=fun _=>True) hgd s x t ho (.int .u8 0) 1 ht Tryd.info5 rfl (by decide) hs hx hv (hu.zone fun b _ hb=>⟨trivial,hz b hb⟩) (by omega) (by omega) hB ?_;intro v' w' h1 h2 h3 h4;exact h v' w' h1 ⟨h2,fun b hlt hne=>⟨h3.block b hlt hne,h4 b hlt hne⟩⟩
theorem ke(c x:Int)(i:Nat)(hc:c.toNat % 2 ^ i=0)(h0:0<=c)(h1:c<256)(h2:0<=x)(h3:x<256)(hx:x.toNat<2 ^ i):bits .or .u8 x c=c+x:=by
 rw [<-dM c x i hc h0 h1 h2 h3 hx,u8_or x c h2 h3 h0 h1,u8_or c x h0 h1 h2 h3,Nat.or_comm]
def je(w:World)(xs:List Int)(e:Ending)(w':World):Prop:=∃ v',e=.returned v'/\BOwn w' w.heap.size v' xs/\Below w.heap.size w w'
theorem cw(b:Bool)(k:Int)(w:World):Calls Tryd.prog 51 #[.bool b,.int .u8 k] w (fun e w'=>e=.returned (.int .u8 (if b=true then k else 0))/\w=w'):=by
 cases b
 ·go_enter Tryd.func51,Tryd.ntmps51
  go_wp2;go_ret;exact ⟨ae,rfl⟩
 ·go_enter Tryd.func51,Tryd.ntmps51
  go_wp2;go_ret;exact ⟨ae,rfl⟩
theorem eH(B:Nat)(v:Value)(xs:List Int)(n:Nat)(w:World)(hown:BOwn w B v xs)(hB:B<=w.heap.size)(hl:xs.length<=1000000000)(hn:n<2097152):Calls Tryd.prog 50 #[v,.int .i64 (n:Int)] w (WAp B v w (xs++aA n)):=by
 have HW:=aa (And.intro hown (Stp.refl B w v));clear hown
 go_enter Tryd.func50,Tryd.ntmps50
 go_wp2
 go_loopw [0,1] (fun bv nv wr=>∃ (m:Nat) (pre:List Int),nv=.int .i64 (m:Int)/\m<=n/\Hid (pre++aA m=aA n/\BOwn wr B bv (xs++pre)/\Stp B w v wr bv)) (fun _ nv _=>(intOf nv).toNat)
 case atStart=>exact ⟨n,[],rfl,Nat.le_refl _,aa ⟨rfl,by rw [List.append_nil];exact HW.out.1,HW.out.2⟩⟩
 case round =>
  clear HW;obtain ⟨m,pre,rfl,hm,HS⟩:=hrel;have hpl:pre.length<=3:=by
   have h1:=congrArg List.length HS.out.1;rw [List.length_append] at h1;have:=aD hn;omega
  have hsz:=Nat.le_trans hB HS.out.2.2.1.size
  by_cases h:m<128
  ·have d1:decide ((128:Int)<=(m:Int))=false:=ah (by omega);have hm8:(m:Int) % 256=(m:Int):=by omega
   obtain ⟨YS,ni⟩:=ab (xs++pre);have HY:=aa ni;have HOW:=aa (show BOwn wr B u0 YS from by rw [ni];exact HS.out.2.1);have ue:YS.length<=1000000003:=by rw [ni,List.length_append];omega
   have HE:=aa (show YS++[(m:Int)]=xs++aA n from by rw [ni,List.append_assoc,<-ck h,HS.out.1]);have HB:=aa HS.out.2.2;clear HS ni hpl
   go_wp2_with (at_builtin;refine dJ rfl (.tmp 16) (.tmp 19) 46 rfl Tryd.underlying46 (m:Int) rfl rfl HOW.out (by omega) hsz ?_)
   intro v' w' hown' hb;have HF:=aa (show BOwn w' B v' (xs++aA n)/\Stp B w v w' v' from ⟨by rw [<-HE.out];exact hown',HB.out.trans hb⟩);clear hown' hb HOW;go_wp2;go_ret;exact ⟨v',rfl,HF.out.1,HF.out.2⟩
  ·have d1:decide ((128:Int)<=(m:Int))=true:=ag (by omega);obtain ⟨r,hr⟩ : ∃ r:Nat,r=m % 128:=⟨_,rfl⟩;obtain ⟨q,hq⟩ : ∃ q:Nat,q=m / 128:=⟨_,rfl⟩;have hr1:(m:Int).tmod 128=(r:Int):=by rw [Int.tmod_eq_emod_of_nonneg (by omega)];omega
   have qF:(m:Int).tdiv 128=(q:Int):=by rw [Int.tdiv_eq_ediv_of_nonneg (by omega)];omega
   have tQ:(r:Int) % 256=(r:Int):=by omega
   have rT:bits .or .u8 (r:Int) 128=128+(r:Int):=ke 128 (r:Int) 7 (by decide) (by decide) (by decide) (by omega) (by omega) (by omega);have oe:IntKind.i64.wrap (q:Int)=(q:Int):=by rw [IntKind.wrap_i64];omega
   have hqm:q<m:=by omega
   obtain ⟨YS,ni⟩:=ab (xs++pre);have HOW:=aa (show BOwn wr B u0 YS from by rw [ni];exact HS.out.2.1);have ue:YS.length<=1000000003:=by rw [ni,List.length_append];omega
   have HE:=aa (show (pre++[128+(r:Int)])++aA q=aA n from by
    rw [<-HS.out.1,dj (show 128<=m by omega),<-hr,<-hq,List.append_assoc]
    simp)
   have HY:=aa (show YS++[128+(r:Int)]=xs++(pre++[128+(r:Int)]) from by rw [ni,List.append_assoc]);have HB:=aa HS.out.2.2;clear HS ni hpl hr hq h
   go_wp2_with (at_builtin;refine dJ rfl (.tmp 7) (.tmp 12) 46 rfl Tryd.underlying46 (128+(r:Int)) rfl rfl HOW.out (by omega) hsz ?_)
   intro v' w' hown' hb;have HF:=aa (show (pre++[128+(r:Int)])++aA q=aA n/\BOwn w' B v' (xs++(pre++[128+(r:Int)]))/\Stp B w v w' v' from ⟨HE.out,by rw [<-HY.out];exact hown',HB.out.trans hb⟩);clear hown' hb HOW;go_wp2
   go_roundw
   case rel=>exact ⟨q,_,by go_num,by omega,HF⟩
   case measure=>simp [intOf] <;> omega
def lS(w:World)(L:List Int)(e:Ending)(w':World):Prop:=∃ v',e=.returned (.tuple #[v',.nilIface])/\BOwn w' w.heap.size v' L/\Below w.heap.size w w'
theorem la(v:Value)(xs:List Int)(w:World)(hh:Held .i32 w v xs)(n7:∀ i,i<xs.length->ai (xs.getD i 0)=true)(hlen:xs.length<=1000000000) :
  Calls Tryd.prog 101 #[v] w (lS w (xs.flatMap aj)):=by
 obtain ⟨ao,cap,rfl,hc⟩:=hh.view;have HC:=aa hc;have HV:=aa n7;clear hc n7 hh
 go_enter Tryd.func101,Tryd.ntmps101
 go_wp2
 go_loop [11] (fun i=>∃ k:Nat,k<=xs.length/\i=.int .i64 k) (fun i=>xs.length - (intOf i).toNat)
 case atStart=>exact ⟨0,Nat.zero_le _,rfl⟩
 case round =>
  obtain ⟨k,hk,rfl⟩:=hrel
  by_cases hlt:k<xs.length
  ·obtain ⟨b,off,rfl,hb,mx⟩:=HC.out k hlt;have pP:=HV.out k hlt;generalize xs.getD k 0=x at mx pP;have pP:=aa pP
   go_wp2_with fail
   refine (cA _ _).mono ?_;rintro e w' ⟨rfl,rfl⟩;rw [pP.out];go_wp2
   go_round
   case rel=>exact ⟨k+1,by omega,by go_num⟩
   case measure=>simp [intOf];omega
  ·go_wp2
   go_loopw [25,6] (fun i v wr=>∃ k:Nat,k<=xs.length/\i=.int .i64 k/\gA w xs k v wr) (fun i _ _=>xs.length - (intOf i).toNat)
   case atStart=>exact ⟨0,Nat.zero_le _,rfl,World.ownsRow_nil _ _ _ _,Below.refl _ _⟩
   case round =>
    obtain ⟨m,hm,rfl,hrel⟩:=hrel
    by_cases rR:m<xs.length
    ·obtain ⟨b,off,rfl,hb,mx⟩:=HC.out m rR;obtain ⟨x,hx⟩:=ab (xs.getD m 0);rw [<-hx] at mx;have mx:=(hrel.2.cell (p:=⟨b,off+m,none⟩) hb).trans mx;have HX:=aa hx;clear hx;have hle:=iq xs m
     go_wp2_with fail
     refine (iH w.heap.size _ _ (eD xs m) x _ hrel.1 hrel.2.size (by omega)).mono ?_;rintro e w1 ⟨v1,rfl,hown1,hb1⟩;have qg:gA w xs (m+1) v1 w1:=by
      rw [HX.out] at hown1;refine ⟨?_,hrel.2.trans hb1⟩;rw [fT xs m rR,List.length_append];exact hown1
     clear hown1 hb1 hrel mx;go_wp2
     go_roundw
     case rel=>exact ⟨m+1,by omega,by go_num,qg⟩
     case measure=>simp [intOf];omega
    ·go_wp2
     go_ret2
     have ph:m=xs.length:=by omega
     subst ph;have:=ei (Z:=fun _=>True) hrel.1;exact ⟨_,rfl,by simpa [eD] using this,hrel.2⟩
theorem cx(n:Nat):n<2097152->∀ w:World,Calls Tryd.prog 58 #[.int .i64 (n:Int)] w (je w (aA n)):=by
 induction n using Nat.strongRecOn with
 |_ n ih =>
  intro hn w
  by_cases h:n<128
  ·have d1:decide ((n:Int)<128)=true:=ag (by omega);have hm8:(n:Int) % 256=(n:Int):=by omega
   have HF:=aa (And.intro (BOwn.one w w.heap.size (n:Int) (Nat.le_refl _)) (l7 w (.cells [Value.int .u8 (n:Int)].toArray 5)));have HE:=aa (ck h);clear ih h
   go_enter Tryd.func58,Tryd.ntmps58
   go_wp2;go_ret;exact ⟨_,rfl,by rw [HE.out];exact HF.out.1,HF.out.2⟩
  ·have d1:decide ((n:Int)<128)=false:=ah (by omega);obtain ⟨r,hr⟩ : ∃ r:Nat,r=n % 128:=⟨_,rfl⟩;obtain ⟨q,hq⟩ : ∃ q:Nat,q=n / 128:=⟨_,rfl⟩;have hr1:(n:Int).tmod 128=(r:Int):=by rw [Int.tmod_eq_emod_of_nonneg (by omega)];omega
   have qF:(n:Int).tdiv 128=(q:Int):=by rw [Int.tdiv_eq_ediv_of_nonneg (by omega)];omega
   have hwr:IntKind.i64.wrap (128+(r:Int))=128+(r:Int):=by rw [IntKind.wrap_i64];omega
   have hwr8:(128+(r:Int)) % 256=128+(r:Int):=by omega
   have oe:IntKind.i64.wrap (q:Int)=(q:Int):=by rw [IntKind.wrap_i64];omega
   obtain ⟨W1,hW1⟩:=ab (w.alloc (.cells [Value.int .u8 (128+(r:Int))].toArray 5));have hb1:Below w.heap.size w W1:=by rw [hW1];exact l7 _ _
   have xP:=BOwn.one w w.heap.size (128+(r:Int)) (Nat.le_refl _);rw [<-hW1] at xP;have HI:=aa (ih q (by omega) (by omega) W1);have nu:=aa hb1;have ub:=aa xP;have mG:=aa (show w.alloc (.cells #[Value.int .u8 (128+(r:Int))] 5)=W1 from by rw [hW1]);have HE:=aa (show [128+(r:Int)]++aA q=aA n from by rw [dj (show 128<=n by omega),<-hr,<-hq];simp);have yc:=aD (show q<2097152 by omega);clear ih h hr hq hW1 hb1 xP;obtain ⟨gp,n8⟩:=ab (w.heap.size);have pZ:=aa n8;rw [<-n8] at ub;clear n8
   go_enter Tryd.func58,Tryd.ntmps58
   go_wp2_with fail
   rw [mG.out,<-pZ.out];refine HI.out.mono ?_;rintro e w2 ⟨v2,rfl,vM,b2⟩;have hown1:BOwn w2 w.heap.size (.slice (some ⟨gp,0,none⟩) 1 1) [128+(r:Int)]:=by rw [<-pZ.out];exact ub.out.below b2
   have rC:=aa hown1;have m3:=aa (vM.held (Z:=fun b=>W1.heap.size<=b) (fun b h _=>h));have HG2:=aa (show gp<W1.heap.size from by have:=(ub.out.lt gp rfl).2;exact this);have mV:=aa (nu.out.trans (b2.mono nu.out.size));obtain ⟨Q,hQ⟩:=ab (aA q);rw [<-hQ] at m3 HE yc;clear hown1 vM b2 HI hQ
   go_wp2_with (at_builtin;refine bq (Z:=fun b=>W1.heap.size<=b) rfl (.tmp 12) (.tmp 15) 46 rfl Tryd.underlying46 rfl rfl rC.out m3.out (fun b hb e=>by have:gp=b:=Option.some.inj (show some gp=some b from e);have:=HG2.out;omega) (by simp;omega) mV.out.size ?_)
   intro v3 w3 m4 hb3;have HF:=aa (show BOwn w3 w.heap.size v3 (aA n)/\Below w.heap.size w w3 from ⟨by rw [<-HE.out];exact m4,mV.out.trans hb3.1⟩);clear m4 hb3;go_wp2;go_ret;exact ⟨v3,rfl,HF.out.1,HF.out.2⟩
theorem dZ{c:Cl}(h:am c=true):(∀ i,i<c.2.length->ai (c.2.getD i 0)=true)/\c.2.length<=16/\(0<c.2.length->c.1=1\/c.1=2):=by
 obtain ⟨k,xs⟩:=c;unfold am at h;simp only at h
 by_cases hk:(k == 0 || k == 3)=true
 ·rw [if_pos hk,beq_iff_eq] at h;exact ⟨fun i hi=>absurd hi (by simp only;omega),by simp only;omega,fun h0=>absurd h0 (by simp only;omega)⟩
 ·rw [if_neg hk,Bool.and_eq_true,Bool.and_eq_true,Bool.and_eq_true,Bool.or_eq_true,beq_iff_eq,beq_iff_eq,decide_eq_true_eq,decide_eq_true_eq] at h;refine ⟨fun i hi=>?_,h.1.2,fun _=>h.1.1.1⟩;have:=h.2;unfold aM at this;simp only at hi ⊢;rw [show xs.getD i 0=xs[i] from by simp [List.getD,List.getElem?_eq_getElem hi]];exact List.all_eq_true.1 this _ (List.getElem_mem hi)
theorem di{c:Cl}(h:am c=true):(clB c).length<=67:=by
 have h1:=dZ h;have h2:=du c.2;unfold clB
 split
 ·simp
 ·rw [List.length_append];have:=aD (show 2 * (c.2.flatMap aj).length+(if c.1=2 then 1 else 0)<2097152 by split <;> omega);omega
theorem kf(B:Nat)(v:Value)(xs:List Int)(k:Int)(tv:Value)(T:List Int)(w:World)(hown:BOwn w B v xs)(hB:B<=w.heap.size)(hl:xs.length<=900000000)(hr:am (k,T)=true)(ht:Held .i32 w tv T):Calls Tryd.prog 85 #[v,.agg #[.int .i64 k,tv]] w (WAp B v w (xs++clB (k,T))):=by
 obtain ⟨r1,r2,r3⟩:=dZ hr;have nw:=di hr;simp only at r1 r2 r3;obtain ⟨W1,hW1⟩:=ab (w.alloc (.cells [Value.int .i64 k,tv].toArray 85));have hb1:Below w.heap.size w W1:=by rw [hW1];exact l7 _ _
 have l8:Has W1 w.heap.size [.int .i64 k,tv] 85:=by rw [hW1];exact Has.new w _ _
 have mG:=aa (show w.alloc (.cells #[Value.int .i64 k,tv] 85)=W1 from by rw [hW1]);obtain ⟨gp,n8⟩:=ab (w.heap.size);have pZ:=aa n8;rw [<-n8] at l8;have og:=aa l8;have nu:=aa hb1;have ub:=aa (hown.below hb1);have qR:=aa (la tv T W1 (ht.below hb1) r1 (by omega));have xH:=aa (Nat.le_trans hB hb1.size);have vC:=aa (show ∀ b,v.ownBlock=some b->b<W1.heap.size from fun b e=>Nat.lt_of_lt_of_le (hown.lt b e).2 hb1.size);obtain ⟨to_,tc,etv⟩:=ht.len;have z0:=l8.cell 0 _ rfl;have z1:=l8.cell 1 _ rfl;obtain ⟨F,hF⟩:=ab (T.flatMap aj);have mD:F.length<=64:=by rw [hF];have:=du T;omega
 rw [<-hF] at qR;have oU:=aa (show clB (k,T)=if T.length=0 then [] else aA (2 * F.length+(if k=2 then 1 else 0))++F from by unfold clB;rw [hF]);have um:F.length=0↔T.length=0:=by
  rw [hF];constructor
  ·intro h
   cases T with
   |nil=>rfl
   |cons x T =>
    exfalso;have hx:=r1 0 (by simp);have h1:=(ij x hx []).2.1;rw [List.flatMap_cons,List.length_append] at h;omega
  ·intro h;rw [List.eq_nil_of_length_eq_zero h];rfl
 clear hW1 hb1 l8 n8 hown ht r1 r2 hF hr;subst etv
 go_enter Tryd.func85,Tryd.ntmps85
 go_upto_region 1 with (fail)
 rw [mG.out,<-pZ.out]
 go_wp2_with fail
 refine qR.out.mono ?_;rintro e w2 ⟨fv,rfl,hfv,b2⟩;have su:=hfv.held (Z:=fun b=>W1.heap.size<=b) (fun b h _=>h);obtain ⟨fo,fc,efv⟩:=su.len;have m3:=aa (og.out.below b2 og.out.lt);have rC:=aa (ub.out.below b2);have mV:=aa (nu.out.trans (b2.mono nu.out.size));have HBS2:=aa (Nat.le_trans xH.out b2.size);have t9:=aa su;obtain ⟨nf,sT⟩:=ab (F.length);rw [<-sT] at efv mD um oU;have ux:=aa sT;subst efv;clear hfv su b2 qR og ub nu z0 z1 sT;have q0:=m3.out.cell 0 _ rfl
 by_cases h0:nf=0
 ·have d1:((nf:Int) == 0)=true:=by rw [beq_iff_eq];omega
  have HE:=aa (show xs++clB (k,T)=xs from by rw [oU.out,if_pos (um.1 h0),List.append_nil]);clear h0 um r3 oU nw;go_wp2;go_ret;exact ⟨v,rfl,by rw [HE.out];exact rC.out,Stp.bel mV.out hB⟩
 ·have d1:((nf:Int) == 0)=false:=by rw [beq_eq_false_iff_ne];omega
  have hk2:k=1\/k=2:=r3 (by omega);obtain ⟨fl,pV⟩ : ∃ fl:Nat,fl=if k=2 then 1 else 0:=⟨_,rfl⟩;obtain ⟨kb,hkb⟩:=ab ((k == 2));have qN:=aa (cw kb 1 w2);have uG:(if kb=true then (1:Int) else 0)=(fl:Int):=by
   rw [hkb,pV]
   rcases hk2 with rfl | rfl <;> rfl
  rw [uG] at qN;have hfl9:fl<=1:=by rw [pV];split <;> omega
  rw [<-pV,if_neg (show ¬ T.length=0 from fun e=>h0 (um.2 e))] at oU;rw [ux.out] at oU;have hkbv:(k == 2)=kb:=hkb.symm;have rs:IntKind.i64.wrap (2 * (nf:Int))=((2 * nf:Nat):Int):=by rw [IntKind.wrap_i64];omega
  have xa:IntKind.i64.wrap (((2 * nf:Nat):Int)+(fl:Int))=((2 * nf+fl:Nat):Int):=by rw [IntKind.wrap_i64];omega
  have hwf:IntKind.i64.wrap (fl:Int)=(fl:Int):=by rw [IntKind.wrap_i64];omega
  have oM:=aa (eH B v xs (2 * nf+fl) w2 rC.out HBS2.out (by omega) (by omega));obtain ⟨NL,qs⟩:=ab (aA (2 * nf+fl));have mA:=(aD (show 2 * nf+fl<2097152 by omega)).2;rw [<-ux.out] at oU;rw [<-qs] at oM oU mA;clear h0 um r3 hk2 pV hkb uG qs nw
  go_wp2_with fail
  refine qN.out.mono ?_;rintro e w3 ⟨rfl,rfl⟩
  go_wp2_with fail
  refine oM.out.mono ?_;rintro e w4 ⟨v4,rfl,mY,b4⟩;obtain ⟨ZS,qG⟩:=ab (xs++NL);rw [<-qG] at mY;have hzl:ZS.length<=900000003:=by rw [qG,List.length_append];omega
  have oY:=aa mY;have mu:=aa ((Stp.bel mV.out hB).trans b4);have HF4:=aa (b4.held t9.out (fun b hb e=>by have:=(rC.out.lt b e).2;have:=vC.out b e;omega));have HE:=aa (show ZS++F=xs++clB (k,T) from by rw [oU.out,qG,List.append_assoc]);have HBS4:=aa (Nat.le_trans HBS2.out b4.1.size);clear mY b4 qG oM qN t9
  go_wp2_with (at_builtin;refine bq (Z:=fun b=>W1.heap.size<=b/\v4.ownBlock≠some b) rfl (.tmp 32) (.tmp 33) 46 rfl Tryd.underlying46 rfl rfl oY.out HF4.out (fun b hb=>hb.2) (by have:=ux.out;omega) HBS4.out ?_)
  intro v5 w5 hown5 mF;have HF:=aa (show BOwn w5 B v5 (xs++clB (k,T))/\Stp B w v w5 v5 from ⟨by rw [<-HE.out];exact hown5,mu.out.trans mF⟩);clear hown5 mF;go_wp2;go_ret;exact ⟨v5,rfl,HF.out.1,HF.out.2⟩
end Go.Proofs.YtechjomepdahiaaDoor
