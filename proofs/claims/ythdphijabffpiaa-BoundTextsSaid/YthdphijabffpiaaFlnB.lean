import Derived.Test.YthdphijabffpiaaZ0
import Derived.Test.YthdphijabffpiaaMg6
import Derived.Test.YthdphijabffpiaaMg1
import Derived.Lib.MinMax
set_option maxRecDepth 100000
set_option linter.unusedVariables false
set_option linter.unusedSimpArgs false
set_option maxHeartbeats 3000000
namespace Go.Proofs.Ythdphijabffpiaa
open Go.RowKit Go.ChangeShapes Go.WideShapes
attribute [local go_sem] Oper.semAt_some
theorem hZ{xs:List Int}{lo hi:Nat}{x:Cu}{W:World}(h:XCu xs lo hi x W)(hn:xs.length<=1000000):HeldE (dG .i32) (fun b=>lo<=b/\b<hi) W x.v (aB xs x.p):=by
 have h9:=h.held;obtain ⟨g,hv,h1,h2,h3,h4,h5,h6⟩:=h;have hl:=bw xs x.p (Nat.le_of_lt h4) h5;rw [hv] at h9 ⊢;exact fl h9 (Nat.le_refl _) (by unfold maxLen;omega) (fun a e _=>by cases e;exact ⟨h1,h2⟩)
theorem Upd.more{C S:aE}{a b c:World}(h:Upd C a b)(k:Upd S b c)(hs:∀ x,S x->C x\/a.heap.size<=x):Upd C a c :=
 ⟨k.os.trans h.os,k.tape.trans h.tape,k.output.trans h.output,Nat.le_trans h.size k.size,fun i hi hc=>(k.block i (Nat.lt_of_lt_of_le hi h.size) (fun e=>by rcases hs i e with e | e;exact hc e;omega)).trans (h.block i hi hc)⟩
def gQ(w:World)(lo:Nat)(xs:List Int)(Wd:Int)(f:Value)(C:aE)(J:Nat->List (List Int × Bool)->World->Prop)(hi:Nat)(pre:List Cu)(A:World):Prop :=
 lo<=hi/\Has A w.heap.size [.int .i64 Wd] 3/\Has A (w.heap.size+1) [f] 34/\Has A (w.heap.size+2) [.int .i64 (bD Wd (bJ xs pre)).2] 3/\J hi (bD Wd (bJ xs pre)).1 A/\Upd C w A/\hi<=A.heap.size/\pre.length<=1000000
theorem f7(v:Value)(xs:List Int)(Wr:Int)(gf:Nat)(lb:Array Value)(w:World)(C:aE)(J:Nat->List (List Int × Bool)->World->Prop)(hx:Held .i32 w v xs)(hn:xs.length<=1000000)(hgf:∀ args w',(callFunc gf args).run Try.prog w'=.ok (.enter gf args) w')
  (hC:∀ b,C b->b<w.heap.size) (hJu:∀ hi t A B,J hi t A->Upd (fun b=>w.heap.size<=b/\b<hi) A B->J hi t B) (hJ0:∀ hi W1,Below w.heap.size w W1->w.heap.size<=hi->hi<=W1.heap.size->J hi [] W1)
  (hstep:∀ hi t W xv T next,w.heap.size<=hi->hi<=W.heap.size->J hi t W->HeldE (dG .i32) (fun b=>w.heap.size<=b/\b<hi) W xv T->T.length<=1000000->t.length<1000000->Calls Try.prog gf (#[xv,.bool next]++lb) W (fun e W'=>e=.returned (.tuple #[])/\J hi (t++[(T,next)]) W'/\Upd (fun b=>C b\/hi<=b) W W')) :
  Calls Try.prog 13 #[v,.int .i64 Wr,.func (.func gf) #[] lb] w (fun e w'=>e=.returned (.tuple #[])/\(∃ hi,w.heap.size<=hi/\J hi (bD (bC Wr) (aL xs)).1 w')/\Upd C w w'):=by
 obtain ⟨ao,ca,rfl⟩:=hx.len;refine (callsIn_wide (n:=9)).1 ?_;obtain ⟨W3,hW3⟩:=ab (((w.alloc (.cells #[.int .i64 (min (max Wr 1) 1024)] 3)).alloc (.cells #[.func (.func gf) #[] lb] 34)).alloc (.cells #[.int .i64 0] 3));have b3:Below w.heap.size w W3:=by rw [hW3];exact ((iF _ _).alloc (by simp) _).alloc (by simp;omega) _
 have hs3:W3.heap.size=w.heap.size+3:=by rw [hW3];simp
 have j3:Has W3 w.heap.size [.int .i64 (bC Wr)] 3:=by rw [hW3];exact ((Has.new w [.int .i64 (min (max Wr 1) 1024)] _).alloc _).alloc _
 have hh1:Has W3 (w.heap.size+1) [.func (.func gf) #[] lb] 34:=by
  have h:=(Has.new (w.alloc (.cells #[.int .i64 (min (max Wr 1) 1024)] 3)) [.func (.func gf) #[] lb] 34).alloc (.cells #[.int .i64 0] 3);rw [World.size_alloc] at h;rw [hW3];exact h
 have hh2:Has W3 (w.heap.size+2) [.int .i64 0] 3:=by
  have h:=Has.new ((w.alloc (.cells #[.int .i64 (min (max Wr 1) 1024)] 3)).alloc (.cells #[.func (.func gf) #[] lb] 34)) [.int .i64 0] 3;rw [World.size_alloc,World.size_alloc] at h;rw [hW3];exact h
 have HG:=aa (eM _ xs W3 (hx.below b3) hn);have HW3:=aa hW3;have kq:=aa b3;have kP:=aa hs3;have jT:=aa (And.intro j3 (And.intro hh1 hh2));have HC:=aa hC;have jP:=aa hJu;have lc:=aa hJ0;have HST:=aa hstep;have HGF:=aa hgf;clear hW3 b3 hs3 j3 hh1 hh2 hC hJu hJ0 hstep hx hgf;refine callsIn_of_wp_marks Try.func13 rfl trivial ?_ rfl;simp only [Try.ntmps13,List.size_toArray,List.length_cons,List.length_nil,Nat.reduceAdd,Nat.reduceSub,Array.replicate_succ,Array.replicate_zero,List.push_toArray,List.append_toArray,List.nil_append,List.cons_append]
 gi_wp2_with fail
 rw [<-HW3.out]
 first | refine ⟨trivial,(fun h=>absurd h (by decide)),(callsIn_wide.2 HG.out).mono ?_⟩ | refine ⟨trivial,(callsIn_wide.2 HG.out).mono ?_⟩
 rintro e w1 ⟨B,vk,rfl,hB,hk,b1,hBl⟩;have i9:=aa (show w.heap.size+3<=w1.heap.size from by have:=b1.size;have:=kP.out;omega);have HA:=aa (show Has w1 w.heap.size [.int .i64 (bC Wr)] 3/\Has w1 (w.heap.size+1) [.func (.func gf) #[] lb] 34/\Has w1 (w.heap.size+2) [.int .i64 0] 3 from ⟨jT.out.1.below b1 jT.out.1.lt,jT.out.2.1.below b1 jT.out.2.1.lt,jT.out.2.2.below b1 jT.out.2.2.lt⟩);have kw:=aa (show Below w.heap.size w w1 from kq.out.trans (b1.mono kq.out.size));have h1:1<=9:=by decide
 have hwd:=fE Wr;obtain ⟨Wd,kK⟩:=ab (bC Wr);rw [<-kK] at HA hwd;have HWE:=aa kK;have jX:=aa hwd;clear kK hwd jT HG
 gi_wp2_with fail
 refine di rfl h1 (gf:=17) (lb:=#[.pointer (some ⟨B,0,none⟩)]) rfl trivial (enters_of Try.func17 (by kernel_rfl) rfl) (eO B vk xs w1 hB hk hn _ (fun b=>C b\/b=w.heap.size+2)) (Below.refl _ _) (fun _=>rfl) (fun b e=>by have:=i9.out;rcases e with e | e;have:=HC.out b e;omega;omega)
  (gQ w (w1.heap.size+2) xs Wd (.func (.func gf) #[] lb) C J) (fun _ _ _ _=>False) ?hI (fun _ _ _ _ _ h _=>h) ?h0 (fun x=>{ tmps:=#[.slice ao xs.length ca,.int .i64 Wr,.func (.func gf) #[] lb,undef,.pointer (some ⟨w.heap.size,0,none⟩),.pointer (some ⟨w.heap.size+1,0,none⟩),.pointer (some ⟨w.heap.size+1+1,0,none⟩),undef,x.v,undef,undef,.int .i64 Wr,.int .i64 (max Wr 1),.int .i64 (min (max Wr 1) 1024),.slice ao xs.length ca,.func (.func 17) #[] #[.pointer (some ⟨B,0,none⟩)],.int .i64 (x.p.1:Int),x.v,undef,undef,undef,undef,undef,undef,undef,undef,undef,undef,undef,undef,undef,undef,undef,undef,undef,undef,undef,undef,undef],defers:=[] }) ?assign ?body ?done ?stop
 case hI =>
  rintro hi pre A A' ⟨iW,h0,h1,h2,h3,h4,h5,h6⟩ hu;have hl:=i9.out;exact ⟨iW,hu.keep.has h0 (fun e=>by omega),hu.keep.has h1 (fun e=>by omega),hu.keep.has h2 (fun e=>by omega),jP.out hi _ A A' h3 (hu.mono fun b _ e=>by omega),h4.more hu (fun b e=>.inr (by omega)),Nat.le_trans h5 hu.size,h6⟩
 case h0 =>
  intro hi W1 hb h1 h2;have hl:=i9.out;exact ⟨h1,HA.out.1.below hb HA.out.1.lt,HA.out.2.1.below hb HA.out.2.1.lt,HA.out.2.2.below hb HA.out.2.2.lt,lc.out hi W1 (kw.out.trans (hb.mono kw.out.size)) (by omega) h2,Upd.ofBelow (kw.out.trans (hb.mono kw.out.size)),h2,Nat.zero_le _⟩
 case assign =>
  intro l x W K hK;unfold eN
  gi_wp2
  exact hK
 case stop =>
  intro hi c pre W _ h _;exact h.elim
 case done =>
  rintro hi ys W hS ⟨iW,h0,h1,h2,h3,h4,h5,h6⟩ hK;rw [eL hS] at h3;have hu:=bu (S:=fun b=>b=w1.heap.size) W w1.heap.size (.deferred none) rfl;have HL:=aa i9.out;have HE:=aa (h4.more hu (fun b e=>.inr (by have:=HL.out;omega)));have HJ:=aa (jP.out hi _ W _ h3 (hu.mono fun b _ e=>by have:=HL.out;omega));have jf:=aa (show w.heap.size<=hi from by have:=HL.out;omega);clear h0 h1 h2 h3 h4
  gi_wp2
  refine ⟨by simp,.inl ⟨_,_,rfl,run_takeDeferred hK,?_⟩⟩;exact ⟨.tuple #[],by simp [results,Try.results13,go_sem],rfl,⟨hi,jf.out,by rw [<-HWE.out];exact HJ.out⟩,HE.out⟩
 case body =>
  rintro l hi pre x W iW jj ⟨_,h0,h1,h2,hJ,hU,h4,h5⟩ ⟨Wx,hx,ke⟩ hR;have hl:=i9.out;have hx:=hx.upd ke (fun b h1 h2=>by omega);have jZ:=hZ hx hn;have j9:=gj hx;have hpl:=fA hR;obtain ⟨kz,hk2,_⟩:=hX hR;have jJ:=gV xs pre.length kz;rw [(ie xs pre.length kz).1,<-(show x.p=(clS xs).getD pre.length (0,0) from by rw [hk2,cc xs _ kz])] at jJ;have jt:bJ xs (pre++[x])=bJ xs pre++[aB xs x.p]:=by simp [bJ]
  have jN:=ge Wd jX.out.1 (bJ xs pre);have iI:(bJ xs pre).length=pre.length:=by simp [bJ]
  have j0:=fb Wd (bJ xs pre) (aB xs x.p);rw [<-jt] at j0;have kM:=aa (show (pre++[x]).length<=1000000 from by rw [List.length_append,List.length_singleton];omega);obtain ⟨NX,kI⟩:=ab (bD Wd (bJ xs (pre++[x])));rw [<-kI] at j0;have HNX:=aa kI;obtain ⟨⟨t,u⟩,hS⟩ : ∃ S,S=bD Wd (bJ xs pre):=⟨_,rfl⟩;rw [<-hS] at h2 hJ jN j0;simp only at h2 hJ jN;obtain ⟨T,hT⟩:=ab (aB xs x.p);rw [<-hT] at jZ j9 jJ j0;obtain ⟨xv,kg⟩:=ab (x.v);rw [<-kg] at jZ ⊢;obtain ⟨k0,jE⟩ : ∃ k0:Int,k0=(x.p.1:Int):=⟨_,rfl⟩;rw [<-jE];have ky:=aa jZ;obtain ⟨xa,xc,rfl⟩:=jZ.len;obtain ⟨b,off,rfl,hb,c0⟩:=jZ.ints.spots 0 j9.1;rw [Nat.add_zero] at c0;have HTS:=aa j0;have kp:t.length<1000000:=by omega
  have HTN:=aa kp;have kS:=aa (show 0<T.length/\T.length<=1000000 by omega);have jx:=aa (fun w'=>eJ (T.getD 0 0) w');have j6:=cZ T;have HCOL:=aa (show ∀ w',Below W.heap.size W w'->Calls Try.prog 5 #[.slice (some ⟨b,off,none⟩) T.length xc] w' (Gives w' (.int .i64 (wdC T))) from fun w' h=>by rw [<-jJ];exact dY _ T w' (ky.out.ints.below h) (by have:=kS.out;omega));have jf:=aa (show hi<=W.heap.size/\w1.heap.size+2<=hi/\w.heap.size+3<=hi from ⟨jj,iW,by omega⟩);have HH:=aa (And.intro h0 (And.intro h1 h2));have jS:=aa hJ;have k6:=aa hU;have HUB:=aa jN;have jn:=aa (show ∀ W',Has W' w.heap.size [.int .i64 Wd] 3->Has W' (w.heap.size+1) [.func (.func gf) #[] lb] 34->Has W' (w.heap.size+2) [.int .i64 NX.2] 3->J hi NX.1 W'->Upd C w W'->hi<=W'.heap.size->gQ w (w1.heap.size+2) xs Wd (.func (.func gf) #[] lb) C J hi (pre++[x]) W' from fun W' a1 a2 a3 a4 a5 a6=>by unfold gQ;rw [<-HNX.out];exact ⟨jf.out.2.1,a1,a2,a3,a4,a5,a6,kM.out⟩);obtain ⟨tn,htn2⟩:=ab (T.length);rw [<-htn2] at HCOL ky j9 ⊢;have htp:0<tn:=j9.1;obtain ⟨ch,hch⟩:=ab (T.getD 0 0);rw [<-hch] at c0 jx j6;have HCH:=aa hch;clear hl hx ke jZ j9 hpl kz hk2 jJ jt jN iI j0 kI hS hT kg jE hb kp hR h0 h1 h2 hJ hU h4 h5 htn2 hch
  rcases j6 with ⟨hs,hw0⟩ | ⟨hs,kU,hw2⟩
  ·rw [hs] at jx;have hN:NX=(t,u):=by rw [HTS.out];unfold tst;rw [if_pos (by rw [<-HCH.out];exact hs)]
   have HN:=aa hN;clear hs hw0 hN
   gi_wp2_with fail
   first | refine ⟨trivial,(fun h=>absurd h (by decide)),(CallsIn.inRound l (callsIn_wide.2 (jx.out _))).mono ?_⟩ | refine ⟨trivial,(CallsIn.inRound l (callsIn_wide.2 (jx.out _))).mono ?_⟩
   rintro e w2 ⟨rfl,b2⟩;have jO:=aa (show Upd (fun b=>(C b\/b=w.heap.size+2)\/hi<=b) W w2 from Upd.ofBelow b2);have jQ:=aa (jn.out w2 (HH.out.1.below b2 HH.out.1.lt) (HH.out.2.1.below b2 HH.out.2.1.lt) (by rw [HN.out];exact HH.out.2.2.below b2 HH.out.2.2.lt) (by rw [HN.out];exact jP.out hi t W w2 jS.out (Upd.ofBelow b2)) (k6.out.trans (Upd.ofBelow b2)) (Nat.le_trans jf.out.1 b2.size));clear b2
   gi_wp2
   exact ⟨jO.out,jQ.out⟩
  ·rw [hs] at jx;obtain ⟨n,ki⟩:=ab (min (wdC T) Wd);have hnb:1<=n/\n<=Wd:=by have:=jX.out;omega
   have hN:NX=(t++[(T,decide (Wd - u<n))],(if Wd - u<n then 0 else u)+n):=by rw [HTS.out];unfold tst;rw [if_neg (by rw [<-HCH.out,hs];decide),<-ki]
   have HN:=aa hN;have HN0:=aa ki;have hwrap:IntKind.i64.wrap (Wd - u)=Wd - u:=by rw [IntKind.wrap_i64];have:=jX.out;have:=HUB.out;omega
   clear hs kU hw2 hN ki
   gi_wp2_with fail
   first | refine ⟨trivial,(fun h=>absurd h (by decide)),(CallsIn.inRound l (callsIn_wide.2 (jx.out _))).mono ?_⟩ | refine ⟨trivial,(CallsIn.inRound l (callsIn_wide.2 (jx.out _))).mono ?_⟩
   rintro e w2 ⟨rfl,b2⟩;have jl:=aa b2;have HK:=aa (show Has w2 w.heap.size [.int .i64 Wd] 3/\Has w2 (w.heap.size+1) [.func (.func gf) #[] lb] 34/\Has w2 (w.heap.size+2) [.int .i64 u] 3 from ⟨HH.out.1.below b2 HH.out.1.lt,HH.out.2.1.below b2 HH.out.2.1.lt,HH.out.2.2.below b2 HH.out.2.2.lt⟩);clear b2 c0
   gi_wp2
   obtain ⟨i4,iP⟩ : ∃ CC:Array Bool->World->Prop,CC=fun L8 w'=>Below w2.heap.size w2 w':=⟨_,rfl⟩
   obtain ⟨jD,i7⟩ : ∃ XX:World->World->Prop,XX=fun x y=>True:=⟨_,rfl⟩
   obtain ⟨j1,ja,iT,iR,iO,iQ,i5,_,_,_⟩:=Reg.e8 jD
    (fun xx _=>xx=.slice (some ⟨b,off,none⟩) tn xc)
    (fun xx _=>xx=.int .i64 (wdC T))
    (fun xx _=>xx=.int .i64 Wd)
    (fun xx _=>xx=.int .i64 (min (wdC T) Wd))
    (fun xx _=>xx=.int .i64 (min (wdC T) Wd))
    (fun _ _=>True) (fun _ _=>True) (fun _ _=>True)
   have jh:Hid (∀ i L w, i4 L w->i4 (L.setIfInBounds i true) w):=aa (by
    intro i L w h;rw [iP] at h ⊢;exact h)
   have js:Hid (∀ L w w1,i4 L w->Below w.heap.size w w1->i4 L w1):=aa (by
    intro L w w1 h hb;rw [iP] at h ⊢;exact h.trans (hb.mono h.size))
   have jv:=aa (show ∀ w,jD w w from fun w=>by rw [i7];exact trivial);have jc:=aa (show ∀ w w1,Below w.heap.size w w1->jD w w1 from fun w w1 hb=>by rw [i7];trivial);have jw:=aa (show i4 (Array.replicate 5 false) w2.drew from by rw [iP];exact (Below.refl _ _).drew);have iX:=aa (fun (i:Nat) L w v (h:i4 L w) (e:j1 i v w)=>Reg.hk (jh.out i L w h) e (jv.out w));have iM:=aa iP;have jk:=aa i7;clear iP i7
   gi_wp2_with fail
   refine Reg.regionFIn (fun _=>trivial) rfl Reg.calls_round (by kernel_rfl) j1 i4 jD ja.out (by kernel_rfl) (by kernel_rfl) (by kernel_rfl) jw.out (fun Frg iL=>?_);simp only [Reg.frame,Reg.dsts,List.map_cons,List.map_nil,Mix.put_lit,List.set_cons_succ,List.set_cons_zero,Nat.zero_add,Nat.reduceAdd] at iL;refine ⟨⟨?_,?_,?_,?_,?_,trivial⟩,?_⟩
   ·intro Lq wq xq hh;simp only [iL];refine Reg.go rfl ?_;have HK:=iX.out 0 _ _ _ hh.cls ((iT.out _ _).mpr rfl);go_simp;exact HK.out
   ·intro Lq wq xq hh;simp only [iL,(iT.out _ _).mp (hh.v 0)];refine Reg.go rfl ?_;unfold Reg.upon;have hc:i4 Lq wq:=hh.cls;rw [iM.out] at hc;go_simp;refine (HCOL.out wq (jl.out.trans (hc.mono jl.out.size))).mono ?_;rintro e w5 ⟨rfl,hb⟩;exact ⟨_,rfl,jh.out 1 Lq w5 (js.out Lq wq w5 hh.cls hb),(by rw [iR.out]),jc.out wq w5 hb⟩
   ·intro Lq wq xq hh;simp only [iL];refine Reg.go rfl ?_;have hc:i4 Lq wq:=hh.cls;rw [iM.out] at hc;have q0:=(HK.out.1.below hc HK.out.1.lt).cell 0 _ rfl;clear hc;have HK:=iX.out 2 _ _ _ hh.cls ((iO.out _ _).mpr rfl);go_simp;exact HK.out
   ·intro Lq wq xq hh;simp only [iL,(iR.out _ _).mp (hh.v 1),(iO.out _ _).mp (hh.v 2)];refine Reg.go rfl ?_;have HK:=iX.out 3 _ _ _ hh.cls ((iQ.out _ _).mpr rfl);go_simp;exact HK.out
   ·intro Lq wq xq hh;simp only [iL,(iQ.out _ _).mp (hh.v 3)];refine Reg.go rfl ?_;have HK:=iX.out 4 _ _ _ hh.cls ((i5.out _ _).mpr rfl);go_simp;exact HK.out
   intro xq jC iZ jI;rw [iM.out] at iZ;simp only [iL];have vrg4:=(i5.out _ _).mp (jI 4 (by decide));rw [vrg4];clear jI iL iX jh jv ja jw iM jk js jc iT iR iO iQ i5;rw [<-HN0.out];have kr:=HK.out.2.2.below iZ HK.out.2.2.lt;have hwf:=HK.out.2.1.below iZ HK.out.2.1.lt;have k7:=HK.out.1.below iZ HK.out.1.lt;have cu:=kr.cell 0 _ rfl;have cw:=k7.cell 0 _ rfl;have fu:=kr.free 0;have HU0:=aa kr;have k5:=aa hwf;have HW0:=aa k7;have jo:=aa (jl.out.trans (iZ.mono jl.out.size));clear kr hwf k7 iZ vrg4;have cf:=k5.out.cell 0 _ rfl;have hp2:w.heap.size+1+1=w.heap.size+2:=rfl
   by_cases hgt:Wd - u<n
   ·have k3:decide (Wd - u<n)=true:=by simpa using hgt
    rw [k3,if_pos hgt] at HN;have hwn:IntKind.i64.wrap n=n:=by rw [IntKind.wrap_i64];have:=jX.out;omega
    obtain ⟨w5,jH⟩:=ab ((jC.setCell ⟨w.heap.size+1+1,0,none⟩ (.int .i64 0)).setCell ⟨w.heap.size+1+1,0,none⟩ (.int .i64 n));have hs1:=(HU0.out.set 0 (.int .i64 0)).set 0 (.int .i64 n);have iY:=((Upd.refl (fun b=>b=w.heap.size+2) jC).setCell (p:=⟨w.heap.size+2,0,none⟩) (.inl rfl) (.int .i64 0)).setCell (p:=⟨w.heap.size+2,0,none⟩) (.inl rfl) (.int .i64 n);rw [<-hp2,<-jH] at hs1;rw [<-jH] at iY;have j7:=aa (show Has w5 (w.heap.size+2) [.int .i64 n] 3 from hs1);have jz:=aa iY;have k2:=aa jH;have hc:=HST.out hi t w5 (.slice (some ⟨b,off,none⟩) tn xc) T true (by have:=jf.out;omega) (Nat.le_trans jf.out.1 (Nat.le_trans jo.out.size iY.size)) (jP.out hi t jC w5 (jP.out hi t W jC jS.out (Upd.ofBelow jo.out)) (iY.mono fun b _ e=>by have:=jf.out;omega)) (((ky.out.below jo.out).upd iY (fun b hz e=>by have:=i9.out;omega)).zoned (fun b _ hz=>⟨by have:=i9.out;omega,hz.2⟩)) kS.out.2 HTN.out;clear hgt hs1 iY jH
    gi_wp2_with fail
    rw [<-k2.out];refine ⟨trivial,?_⟩;rw [HGF.out,Oper.uponIn_enter];refine ⟨fun _=>by decide,(CallsIn.inRound l (callsIn_wide.2 hc)).mono ?_⟩;rintro e w6 ⟨rfl,kl,jg⟩;have hl:=i9.out;have kf:=jf.out;have kh:=HC.out;have jG:∀ b,b=w.heap.size\/b=w.heap.size+1\/b=w.heap.size+2->¬ (C b\/hi<=b):=fun b hb e=>by rcases e with e | e;have:=kh b e;omega;omega
    have jO:=aa (show Upd (fun b=>(C b\/b=w.heap.size+2)\/hi<=b) W w6 from ((Upd.ofBelow jo.out).trans (jz.out.mono (fun b _ e=>.inl (.inr e)))).trans (jg.mono (fun b _ e=>by rcases e with e | e;exact .inl (.inl e);exact .inr e)));have jQ:=aa (jn.out w6 (jg.keep.has (jz.out.keep.has HW0.out (by omega)) (jG _ (.inl rfl))) (jg.keep.has (jz.out.keep.has k5.out (by omega)) (jG _ (.inr (.inl rfl)))) (by rw [HN.out,Int.zero_add];exact jg.keep.has j7.out (jG _ (.inr (.inr rfl)))) (by rw [HN.out];exact kl) (((k6.out.trans (Upd.ofBelow jo.out)).more jz.out (fun b e=>.inr (by omega))).more jg (fun b e=>by rcases e with e | e;exact .inl e;exact .inr (by omega))) (Nat.le_trans kf.1 (Nat.le_trans jo.out.size (Nat.le_trans jz.out.size jg.size))));clear kl jg hc hl kf kh jG
    gi_wp2
    exact ⟨jO.out,jQ.out⟩
   ·have k3:decide (Wd - u<n)=false:=by simpa using hgt
    rw [k3,if_neg hgt] at HN;have hwn:IntKind.i64.wrap (u+n)=u+n:=by rw [IntKind.wrap_i64];have:=jX.out;have:=HUB.out;omega
    obtain ⟨w5,jH⟩:=ab (jC.setCell ⟨w.heap.size+1+1,0,none⟩ (.int .i64 (u+n)));have hs1:=HU0.out.set 0 (.int .i64 (u+n));have iY:=(Upd.refl (fun b=>b=w.heap.size+2) jC).setCell (p:=⟨w.heap.size+2,0,none⟩) (.inl rfl) (.int .i64 (u+n));rw [<-hp2,<-jH] at hs1;rw [<-jH] at iY;have j7:=aa (show Has w5 (w.heap.size+2) [.int .i64 (u+n)] 3 from hs1);have jz:=aa iY;have k2:=aa jH;have hc:=HST.out hi t w5 (.slice (some ⟨b,off,none⟩) tn xc) T false (by have:=jf.out;omega) (Nat.le_trans jf.out.1 (Nat.le_trans jo.out.size iY.size)) (jP.out hi t jC w5 (jP.out hi t W jC jS.out (Upd.ofBelow jo.out)) (iY.mono fun b _ e=>by have:=jf.out;omega)) (((ky.out.below jo.out).upd iY (fun b hz e=>by have:=i9.out;omega)).zoned (fun b _ hz=>⟨by have:=i9.out;omega,hz.2⟩)) kS.out.2 HTN.out;clear hgt hs1 iY jH
    gi_wp2_with fail
    rw [<-k2.out];refine ⟨trivial,?_⟩;rw [HGF.out,Oper.uponIn_enter];refine ⟨fun _=>by decide,(CallsIn.inRound l (callsIn_wide.2 hc)).mono ?_⟩;rintro e w6 ⟨rfl,kl,jg⟩;have hl:=i9.out;have kf:=jf.out;have kh:=HC.out;have jG:∀ b,b=w.heap.size\/b=w.heap.size+1\/b=w.heap.size+2->¬ (C b\/hi<=b):=fun b hb e=>by rcases e with e | e;have:=kh b e;omega;omega
    have jO:=aa (show Upd (fun b=>(C b\/b=w.heap.size+2)\/hi<=b) W w6 from ((Upd.ofBelow jo.out).trans (jz.out.mono (fun b _ e=>.inl (.inr e)))).trans (jg.mono (fun b _ e=>by rcases e with e | e;exact .inl (.inl e);exact .inr e)));have jQ:=aa (jn.out w6 (jg.keep.has (jz.out.keep.has HW0.out (by omega)) (jG _ (.inl rfl))) (jg.keep.has (jz.out.keep.has k5.out (by omega)) (jG _ (.inr (.inl rfl)))) (by rw [HN.out];exact jg.keep.has j7.out (jG _ (.inr (.inr rfl)))) (by rw [HN.out];exact kl) (((k6.out.trans (Upd.ofBelow jo.out)).more jz.out (fun b e=>.inr (by omega))).more jg (fun b e=>by rcases e with e | e;exact .inl e;exact .inr (by omega))) (Nat.le_trans kf.1 (Nat.le_trans jo.out.size (Nat.le_trans jz.out.size jg.size))));clear kl jg hc hl kf kh jG
    gi_wp2
    exact ⟨jO.out,jQ.out⟩
end Go.Proofs.Ythdphijabffpiaa
