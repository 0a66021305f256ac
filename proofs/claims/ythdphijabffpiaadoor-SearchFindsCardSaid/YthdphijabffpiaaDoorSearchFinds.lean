import Derived.Test.YthdphijabffpiaaDoorZ0
import Derived.Test.YthdphijabffpiaaDoorSchW
import Derived.Test.YthdphijabffpiaaDoorMg6
import Derived.Test.YthdphijabffpiaaDoorRgnL
import Derived.Test.YthdphijabffpiaaDoorMg4
import Derived.Test.YthdphijabffpiaaDoorMg1
import Derived.Test.YthdphijabffpiaaDoorCards
import Derived.Test.YthdphijabffpiaaDoorTie
import Derived.ProofKit
import Derived.Lib.MinMax
import Derived.Deep.Cut
set_option maxRecDepth 100000
set_option linter.unusedVariables false
set_option linter.unusedSimpArgs false
set_option maxHeartbeats 8000000
namespace Go.Proofs.YthdphijabffpiaaDoor.lawSearchFinds
open Go.ChangeShapes Go.WideShapes Go.ChangeAt Go.RowKit
theorem room_law{W:World}{v:Vw}{lv:Value}(hv:HeldE lineE (fun _=>True) W lv v.L)(h0:(Lit.int .i64 v.w).wf=true)(h1:(Lit.int .i64 v.h).wf=true):ViewAt W v lv:=by
 simp [Lit.wf] at h0 h1
 exact ⟨hv,h0.1,h0.2,h1.1,h1.2⟩
theorem place_arg{H:Type}{enc:TypeId × Value->H}{W:World}{base:Nat}{x:Value}{d:DataW H}{p:List MemPlace}(hv:Value.okWide Tryd.prog W .any base 76 x)(h:DataW.Trod enc Tryd.prog W 0 (fun _=>true) true 76 x d p):∃ a b,x=.agg #[.int .i64 a,.int .i64 b]:=by
 obtain ⟨cs,⟨a,b⟩,rfl,⟨C1,C2,hC,rfl,rfl⟩,_⟩:=dX (E:=prE (aF .i64) (aF .i64)) Tryd.underlying76 (dh Tryd.underlying76 (by kernel_rfl) rfl rfl (bl (k:=.i64) Tryd.underlying3 (by kernel_rfl)) (bl (k:=.i64) Tryd.underlying3 (by kernel_rfl))) hv h;obtain rfl:cs=#[.int .i64 a,.int .i64 b]:=by
  apply Array.toList_inj.1
  rw [hC];rfl
 exact ⟨a,b,rfl⟩
def preH(Ls:List Ln)(W H:Nat)(x:List Int)(i j:Nat):List Ht:=((List.range i).flatMap fun a=>(List.range W).flatMap fun b=>cZ Ls W H x a b)++(List.range j).flatMap fun b=>cZ Ls W H x i b
theorem pre_col(Ls:List Ln)(W H:Nat)(x:List Int)(i j:Nat):preH Ls W H x i (j+1)=preH Ls W H x i j++cZ Ls W H x i j:=by
 unfold preH;rw [List.range_succ,List.flatMap_append,<-List.append_assoc]
 simp
theorem pre_row(Ls:List Ln)(W H:Nat)(x:List Int)(i:Nat):preH Ls W H x i W=preH Ls W H x (i+1) 0:=by
 unfold preH;rw [List.range_succ (n:=i),List.flatMap_append]
 simp
theorem pre_le(Ls:List Ln)(W H:Nat)(x:List Int)(i:Nat):∀ d j,preH Ls W H x i j <+: preH Ls W H x i (j+d)
 |0,j=>List.prefix_rfl
 |d+1,j=>by
  rw [<-Nat.add_assoc,pre_col];exact (pre_le Ls W H x i d j).trans (List.prefix_append _ _)
theorem pre_rows(Ls:List Ln)(W H:Nat)(x:List Int)(i:Nat):∀ d,preH Ls W H x i 0 <+: preH Ls W H x (i+d) 0
 |0=>List.prefix_rfl
 |d+1=>by
  have h1:=pre_le Ls W H x (i+d) W 0;rw [Nat.zero_add,pre_row] at h1;exact (pre_rows Ls W H x i d).trans h1
theorem pre_all(Ls:List Ln)(W H:Nat)(x:List Int)(i j:Nat)(hi:i<H)(hj:j<=W):preH Ls W H x i j <+: preH Ls W H x H 0:=by
 have h1:=pre_le Ls W H x i (W - j) j;rw [show j+(W - j)=W by omega,pre_row] at h1;have h2:=pre_rows Ls W H x (i+1) (H - (i+1));rw [show i+1+(H - (i+1))=H by omega] at h2;exact h1.trans h2
theorem next_snoc(l:List Ht)(row col:Int)(h:Ht):bc (l++[h]) row col=if (bc l row col).2=true then bc l row col else if aT row col h=true then (h,true) else (zht,false):=by
 unfold bc;rw [List.find?_append]
 cases hf:l.find? (aT row col) with
 |some y=>rfl
 |none =>
  show (match ([h].find? (aT row col)) with | some h=>(h,true) | none=>((0,0,0),false))=if aT row col h=true then (h,true) else (zht,false)
  cases hb:aT row col h with
  | true=>simp [List.find?,hb]
  | false=>simp [List.find?,hb];rfl
theorem next_none(l:List Ht)(row col:Int)(h:(bc l row col).2=false):(bc l row col).1=zht:=by
 unfold bc at h ⊢
 cases hf:l.find? (aT row col) with
 | some y=>rw [hf] at h;exact absurd (show true=false from h) (by decide)
 | none=>rfl
theorem walkN(W:World)(sa:Nat->Addr)(hs:Five W sa)(v:Vw)(lv:Value)(ix:HeldE lineE (fun _=>True) W lv v.L)(h0:(Lit.int .i64 v.w).wf=true)(h1:(Lit.int .i64 v.h).wf=true)(hr:∀ l ∈ v.L,l.1.length * 32<=reachBytes)(tv:Value)(x:List Int)(ht:HeldE (aF .i32) (fun _=>True) W tv x)(ar ac:Int):Calls Tryd.prog 9 #[.agg #[.int .i64 v.w,.int .i64 v.h,lv,.int .i64 v.r,.int .i64 v.c,.bool v.pd,.bool v.au],tv,.agg #[.int .i64 ar,.int .i64 ac]] W (Yes W):=by
 have kZ:=room_law ix h0 h1;have hrk:∀ k,k<v.L.length->(v.L.getD k zl).1.length<=4398046511104:=fun k hk=>by
  have h:=hr (v.L.getD k zl) (by rw [List.getD_eq_getElem?_getD,List.getElem?_eq_getElem hk];exact List.getElem_mem hk);have hq:reachBytes=140737488351232:=rfl;rw [hq] at h;omega
 have nN:=ht.max;have kg:=aa (fun (w':World) (b:Below W.heap.size W w')=>ec v lv w' (ix.below b) hrk);have mB:=aa (fun (w':World) (b:Below W.heap.size W w')=>ed sa w' (hs.below b));have gV:=aa (fun (w':World) (b:Below W.heap.size W w')=>db sa (fun _=>True) v lv tv x w' (hs.below b) (kZ.below b) (ht.below b));have ki:=aa (fun (w':World) (b:Below W.heap.size W w')=>fu sa (fun _=>True) v lv tv x ar ac w' (hs.below b) (kZ.below b) (ht.below b));have mQ:=aa (fun (w':World) (b:Below W.heap.size W w')=>d7 v lv w' (kZ.below b));have my:=aa (fun (W0 H0:Nat) (hn:NatV v W0 H0) (hx:x.length<=1000) (i j:Nat) (hs:aV v.L W0 H0 i j) (w':World) (b:Below W.heap.size W w')=>fg (fun _=>True) v lv tv x W0 H0 hn i j hs w' (kZ.below b) (ht.below b) hx);obtain ⟨xo,xc,etv⟩:=ht.len;obtain ⟨xn,ob⟩:=ab (x.length);have lP:=aa ob;rw [<-ob] at etv;subst etv;obtain ⟨lo,lc,rfl⟩:=ix.len;obtain ⟨n,hn⟩:=ab (v.L.length);rw [<-hn] at kg gV ki mQ my kZ ⊢;have lD:=aa kZ;have mV:=aa hn;obtain ⟨vv,iI⟩:=ab (v);rw [<-iI] at lD mV;have HGE:=aa (show c7 v=c7 vv from by rw [iI]);have HAE:=aa (show cr v x=cr vv x from by rw [iI]);have jt:=aa (show aM v=aM vv from by rw [iI]);have HVN:=aa (show ∀ W0 H0,NatV vv W0 H0->NatV v W0 H0 from by rw [iI];exact fun _ _ h=>h);have mC:=aa (show v.L=vv.L/\∀ W0 H0 i j,dv v W0 H0 x i j=dv vv W0 H0 x i j from by rw [iI];exact ⟨rfl,fun _ _ _ _=>rfl⟩);simp only [mC.out.1,mC.out.2] at my;obtain ⟨vw,vh,Ls,r,c,pd,au⟩:=v;have m8:=aa (show vv.w=vw/\vv.h=vh from by rw [iI];exact ⟨rfl,rfl⟩);simp only [show ∀ z,aN ⟨vw,vh,Ls,r,c,pd,au⟩ z=.agg #[.int .i64 vw,.int .i64 vh,z,.int .i64 r,.int .i64 c,.bool pd,.bool au] from fun _=>rfl] at kg mQ gV ki my;rw [HGE.out] at kg;rw [jt.out] at mQ;rw [HAE.out] at gV ki;simp only;clear iI HGE HAE jt hn hrk kZ ix h0 h1 hr hs ht ob;obtain ⟨Wa,gP⟩:=ab (W.alloc (.cells ([.int .i64 vw,.int .i64 vh,.slice lo n lc,.int .i64 r,.int .i64 c,.bool pd,.bool au]:List Value).toArray 26));obtain ⟨Wb,il⟩:=ab (Wa.alloc (.cells [Value.int .i64 ar,.int .i64 ac].toArray 76));have ba:Below W.heap.size W Wa:=by rw [gP];exact af _ _
 have bb:Below Wa.heap.size Wa Wb:=by rw [il];exact af _ _
 have sa':Wa.heap.size=W.heap.size+1:=by rw [gP];exact Array.size_push _
 have gva:Has Wa W.heap.size [.int .i64 vw,.int .i64 vh,.slice lo n lc,.int .i64 r,.int .i64 c,.bool pd,.bool au] 26:=by rw [gP];exact Has.new W _ _
 have gaa:Has Wb Wa.heap.size [.int .i64 ar,.int .i64 ac] 76:=by rw [il];exact Has.new Wa _ _
 have gva:=Has.below gva bb gva.lt;rw [sa'] at gaa;obtain ⟨gv,ie⟩:=ab (W.heap.size);obtain ⟨ga,lp⟩:=ab (W.heap.size+1);rw [<-ie] at gva;rw [<-lp] at gaa;have HB:=aa (ba.trans (bb.mono ba.size));have HV:=aa gva;have HA:=aa gaa;have l5:=aa (show (W.alloc (.cells #[.int .i64 vw,.int .i64 vh,.slice lo n lc,.int .i64 r,.int .i64 c,.bool pd,.bool au] 26)).alloc (.cells #[Value.int .i64 ar,.int .i64 ac] 76)=Wb from by rw [il,gP]);have iF:=aa ie;have iM:=aa lp;clear gP il ba bb sa' gva gaa ie lp;have hqe:=fh;have mv:=gh
 cases hG:c7 vv with
 |true =>
  rw [hG] at kg;clear hG hqe mv
  go_enter Tryd.func9,Tryd.ntmps9
  go_upto_region 1 with (fail)
  rw [l5.out,<-iM.out,<-iF.out]
  go_wp2_with fail
  refine (mB.out _ HB.out).mono ?_;rintro e w1 ⟨rfl,b1⟩;have gY:=aa (HV.out.below b1 HV.out.lt);have j8:=aa (HA.out.below b1 HA.out.lt);have ia:=aa (HB.out.trans (b1.mono HB.out.size));clear b1;have q0:=gY.out.cell 0 _ rfl;have q1:=gY.out.cell 1 _ rfl;have q2:=gY.out.cell 2 _ rfl;have q3:=gY.out.cell 3 _ rfl;have q4:=gY.out.cell 4 _ rfl;have q5:=gY.out.cell 5 _ rfl;have q6:=gY.out.cell 6 _ rfl
  go_wp2_with fail
  refine (kg.out _ ia.out).mono ?_;rintro e w2 ⟨rfl,b2⟩;have ig:=aa (gY.out.below b2 gY.out.lt);have kj:=aa (j8.out.below b2 j8.out.lt);have gU:=aa (ia.out.trans (b2.mono ia.out.size));clear b2 q0 q1 q2 q3 q4 q5 q6
  go_wp2_with fail
  refine (mB.out _ gU.out).mono ?_;rintro e w3 ⟨rfl,b3⟩;have kx:=aa (gU.out.trans (b3.mono gU.out.size));clear b3;go_wp2;go_ret;exact ⟨ae,kx.out⟩
 |false =>
  rw [hG] at kg;clear hG
  by_cases hx60:60<xn
  ·have d60:(60:Int)<(xn:Int):=by omega
   clear hx60 hqe mv
   go_enter Tryd.func9,Tryd.ntmps9
   go_upto_region 1 with (fail)
   rw [l5.out,<-iM.out,<-iF.out]
   go_wp2_with fail
   refine (mB.out _ HB.out).mono ?_;rintro e w1 ⟨rfl,b1⟩;have gY:=aa (HV.out.below b1 HV.out.lt);have j8:=aa (HA.out.below b1 HA.out.lt);have ia:=aa (HB.out.trans (b1.mono HB.out.size));clear b1;have q0:=gY.out.cell 0 _ rfl;have q1:=gY.out.cell 1 _ rfl;have q2:=gY.out.cell 2 _ rfl;have q3:=gY.out.cell 3 _ rfl;have q4:=gY.out.cell 4 _ rfl;have q5:=gY.out.cell 5 _ rfl;have q6:=gY.out.cell 6 _ rfl
   go_wp2_with fail
   refine (kg.out _ ia.out).mono ?_;rintro e w2 ⟨rfl,b2⟩;have ig:=aa (gY.out.below b2 gY.out.lt);have kj:=aa (j8.out.below b2 j8.out.lt);have gU:=aa (ia.out.trans (b2.mono ia.out.size));clear b2 q0 q1 q2 q3 q4 q5 q6
   go_wp2_with fail
   refine (mB.out _ gU.out).mono ?_;rintro e w3 ⟨rfl,b3⟩;have kx:=aa (gU.out.trans (b3.mono gU.out.size));clear b3;go_wp2;go_ret;exact ⟨ae,kx.out⟩
  have d60:¬ (60:Int)<(xn:Int):=by omega
  have HX60:=aa (show x.length<=60 from by rw [<-lP.out];omega);clear hx60;obtain ⟨l,hl⟩:=ab (cr vv x);have mX:=aa hl;rw [<-hl] at gV ki;obtain ⟨⟨⟨fa,fb,fc⟩,ok⟩,iu⟩ : ∃ y,y=bc l ar ac:=⟨_,rfl⟩;have jr:=aa iu;rw [<-iu] at ki;unfold gG at ki;simp only at ki;clear hl iu
  go_enter Tryd.func9,Tryd.ntmps9
  go_upto_region 1 with (fail)
  rw [l5.out,<-iM.out,<-iF.out]
  go_wp2_with fail
  refine (mB.out _ HB.out).mono ?_;rintro e w1 ⟨rfl,b1⟩;have gY:=aa (HV.out.below b1 HV.out.lt);have j8:=aa (HA.out.below b1 HA.out.lt);have ia:=aa (HB.out.trans (b1.mono HB.out.size));clear b1;have q0:=gY.out.cell 0 _ rfl;have q1:=gY.out.cell 1 _ rfl;have q2:=gY.out.cell 2 _ rfl;have q3:=gY.out.cell 3 _ rfl;have q4:=gY.out.cell 4 _ rfl;have q5:=gY.out.cell 5 _ rfl;have q6:=gY.out.cell 6 _ rfl
  go_wp2_with fail
  refine (kg.out _ ia.out).mono ?_;rintro e w2 ⟨rfl,b2⟩;have ig:=aa (gY.out.below b2 gY.out.lt);have kj:=aa (j8.out.below b2 j8.out.lt);have gU:=aa (ia.out.trans (b2.mono ia.out.size));clear b2 q0 q1 q2 q3 q4 q5 q6;have q0:=ig.out.cell 0 _ rfl;have q1:=ig.out.cell 1 _ rfl;have q2:=ig.out.cell 2 _ rfl;have q3:=ig.out.cell 3 _ rfl;have q4:=ig.out.cell 4 _ rfl;have q5:=ig.out.cell 5 _ rfl;have q6:=ig.out.cell 6 _ rfl
  go_wp2_with fail
  refine (gV.out _ gU.out).mono ?_;rintro e w3 ⟨hv,rfl,ho,b3⟩;have HLV:=aa (ho.held (Z:=fun _=>True) (fun _ _ _=>trivial));have i7:=aa (ig.out.below b3 ig.out.lt);have mY:=aa (kj.out.below b3 kj.out.lt);have i2:=aa (gU.out.trans (b3.mono gU.out.size));clear ho b3 q0 q1 q2 q3 q4 q5 q6;have q0:=i7.out.cell 0 _ rfl;have q1:=i7.out.cell 1 _ rfl;have q2:=i7.out.cell 2 _ rfl;have q3:=i7.out.cell 3 _ rfl;have q4:=i7.out.cell 4 _ rfl;have q5:=i7.out.cell 5 _ rfl;have q6:=i7.out.cell 6 _ rfl;have p0:=mY.out.cell 0 _ rfl;have p1:=mY.out.cell 1 _ rfl
  go_wp2_with fail
  refine (ki.out _ i2.out).mono ?_;rintro e w4 ⟨rfl,b4⟩;have HV4:=aa (i7.out.below b4 i7.out.lt);have HA4:=aa (mY.out.below b4 mY.out.lt);have j2:=aa (i2.out.trans (b4.mono i2.out.size));have HLV4:=aa (HLV.out.below b4);clear b4 p0 p1 q0 q1 q2 q3 q4 q5 q6;obtain ⟨W5,iH⟩:=ab (w4.alloc (.cells [Value.int .i64 fa,.int .i64 fb,.int .i64 fc].toArray 80));have b5:Below w4.heap.size w4 W5:=by rw [iH];exact af _ _
  have h5:Has W5 w4.heap.size [.int .i64 fa,.int .i64 fb,.int .i64 fc] 80:=by rw [iH];exact Has.new w4 _ _
  have ju:=aa (show w4.alloc (.cells #[Value.int .i64 fa,.int .i64 fb,.int .i64 fc] 80)=W5 from by rw [iH]);obtain ⟨g8,kI⟩:=ab (w4.heap.size);have lE:=aa kI;rw [<-kI] at h5;have H8:=aa h5;have iX:=aa (HV4.out.below b5 HV4.out.lt);have km:=aa (HA4.out.below b5 HA4.out.lt);have hY:=aa (j2.out.trans (b5.mono j2.out.size));have jY:=aa (HLV4.out.below b5);clear iH b5 h5 kI
  go_upto_region 5 with (fail)
  rw [ju.out,<-lE.out];have q0:=iX.out.cell 0 _ rfl;have q1:=iX.out.cell 1 _ rfl;have q2:=iX.out.cell 2 _ rfl;have q3:=iX.out.cell 3 _ rfl;have q4:=iX.out.cell 4 _ rfl;have q5:=iX.out.cell 5 _ rfl;have q6:=iX.out.cell 6 _ rfl;have l9:=aa (mQ.out _ hY.out)
  cases hR:aM vv with
  |false =>
   rw [hR] at l9;have hl0:l=[]:=mX.out.trans (if_pos (.inr hR));have iu:=jr.out;rw [hl0] at iu;have iz:((fa,fb,fc),ok)=(((0:Int),(0:Int),(0:Int)),false):=iu;simp only [Prod.mk.injEq] at iz;obtain ⟨⟨rfl,rfl,rfl⟩,rfl⟩:=iz;have hv0:=jY.out;rw [hl0] at hv0;obtain ⟨zo,zk,ezv⟩:=hv0.len;rw [show ([]:List Ht).length=0 from rfl] at ezv;subst ezv;have hz0:cT 0 0 0 0 0 0=true:=by decide
   clear hR hl0 iu hv0 mv
   go_wp2_with fail
   refine (l9.out).mono ?_;rintro e w6 ⟨rfl,b6⟩;have k0:=(H8.out.below b6 H8.out.lt).cell 0 _ rfl;have k1:=(H8.out.below b6 H8.out.lt).cell 1 _ rfl;have k2:=(H8.out.below b6 H8.out.lt).cell 2 _ rfl;have HF:=aa (hY.out.trans (b6.mono hY.out.size));clear b6 q0 q1 q2 q3 q4 q5 q6;go_wp2;go_ret;exact ⟨ae,HF.out⟩
  |true =>
   rw [hR] at l9
   by_cases lm:x=[]
   ·have hx0:xn=0:=by rw [lP.out,lm];rfl
    have hl0:l=[]:=mX.out.trans (if_pos (.inl lm));have iu:=jr.out;rw [hl0] at iu;have iz:((fa,fb,fc),ok)=(((0:Int),(0:Int),(0:Int)),false):=iu;simp only [Prod.mk.injEq] at iz;obtain ⟨⟨rfl,rfl,rfl⟩,rfl⟩:=iz;have hv0:=jY.out;rw [hl0] at hv0;obtain ⟨zo,zk,ezv⟩:=hv0.len;rw [show ([]:List Ht).length=0 from rfl] at ezv;subst ezv;have hz0:cT 0 0 0 0 0 0=true:=by decide
    subst hx0;clear hR hl0 iu hv0 mv lm
    go_wp2_with fail
    refine (l9.out).mono ?_;rintro e w6 ⟨rfl,b6⟩;have k0:=(H8.out.below b6 H8.out.lt).cell 0 _ rfl;have k1:=(H8.out.below b6 H8.out.lt).cell 1 _ rfl;have k2:=(H8.out.below b6 H8.out.lt).cell 2 _ rfl;have HF:=aa (hY.out.trans (b6.mono hY.out.size));clear b6 q0 q1 q2 q3 q4 q5 q6;go_wp2;go_ret;exact ⟨ae,HF.out⟩
   have hxn0:xn≠0:=fun e=>lm (List.eq_nil_of_length_eq_zero (by rw [<-lP.out];exact e))
   have hxz:((xn:Int) == 0)=false:=by rw [beq_eq_false_iff_ne];omega
   have hxz2:(xn == 0)=false:=by rw [beq_eq_false_iff_ne];exact hxn0
   obtain ⟨W0,H0,hn⟩:=dB hR;have hlt:l=preH vv.L W0 H0 x H0 0:=by
    rw [mX.out];have h9:cr vv x=bw x (aJ vv.L) (aJ vv.L).length:=if_neg (by rw [hR];rintro (h | h);exact lm h;exact absurd h (by decide));rw [h9,gj hn x];unfold preH
    simp
   have lI:=aa hlt;have hn9:=hn;have h9':cr vv x=bw x (aJ vv.L) (aJ vv.L).length:=if_neg (by rw [hR];rintro (h | h);exact lm h;exact absurd h (by decide));have ew:vw=(W0:Int):=by rw [<-m8.out.1];exact hn.wide
   have eh:n=H0:=mV.out.trans hn.len;have l8:=hn.w1;have hw2:=hn.w2;have ko:=hn.h2;have nL:=aa (my.out W0 H0 (HVN.out W0 H0 hn) (by have:=HX60.out;omega));have HKC:=aa (fun (i j:Nat) (hi:i<H0) (hj:j<W0)=>bh hn hi hj);have iT:=aa (fun i (hi:i<H0)=>(hn.row i hi).1);have iL:=aa hn.len;subst ew;subst eh;have ik:=aa (aH lD.out.1).2.2;have hlc:=(aH lD.out.1).2.1;have hlv:=jY.out;obtain ⟨zo,zk,ezv⟩:=hlv.len;obtain ⟨nl,m6⟩:=ab (l.length);have hnlm:nl<=1500000000:=by
    have h8:=da hn9;have h9:cr vv x=bw x (aJ vv.L) (aJ vv.L).length:=h9';rw [m6,mX.out,h9];have:=cF x (aJ vv.L) 1048576 h8.2 _ (Nat.le_refl _);have h7:(aJ vv.L).length * 1048576<=1025 * 1048576:=Nat.mul_le_mul_right _ h8.1;omega
   have HNLL:=aa m6;rw [<-m6] at ezv;subst ezv;clear hR lm hxn0 hn hn9 h9' hlt hlv m6 HVN my
   go_wp2_with fail
   refine (l9.out).mono ?_;rintro e w6 ⟨rfl,b6⟩;have mG:=aa (iX.out.below b6 iX.out.lt);have HA6:=aa (km.out.below b6 km.out.lt);have ke:=aa (hY.out.trans (b6.mono hY.out.size));have H86:=aa (H8.out.below b6 H8.out.lt);have HLV6:=aa (jY.out.below b6);clear b6 q0 q1 q2 q3 q4 q5 q6;obtain ⟨hzl,hzk,hat⟩:=dQ HLV6.out;clear hzl;have jW:=aa hat;clear hat
   go_upto_region 9 with (fail)
   obtain ⟨W7,m4⟩:=ab (w6.alloc (.cells [Value.int .i64 0,.int .i64 0,.int .i64 0].toArray 80));have b7:Below w6.heap.size w6 W7:=by rw [m4];exact af _ _
   have h7:Has W7 w6.heap.size [.int .i64 0,.int .i64 0,.int .i64 0] 80:=by rw [m4];exact Has.new w6 _ _
   have HW7:=aa (show w6.alloc (.cells #[Value.int .i64 0,.int .i64 0,.int .i64 0] 80)=W7 from by rw [m4]);obtain ⟨g11,kN⟩:=ab (w6.heap.size);have ll:=aa kN;rw [<-kN] at h7;have H7:=aa (And.intro h7 b7);rw [HW7.out,<-ll.out];clear m4 b7 h7 kN HW7;go_wp2
   go_loopw [10,12,13] (fun kv fv iv wr=>∃ (i k:Nat) (f1 f2 f3:Int) (fo:Bool),i<=n/\iv=.int .i64 i/\kv=.int .i64 k/\fv=.bool fo/\Hid (k=(preH vv.L W0 n x i 0).length/\bc (preH vv.L W0 n x i 0) ar ac=((f1,f2,f3),fo))/\Has wr g11 [.int .i64 f1,.int .i64 f2,.int .i64 f3] 80/\Below w6.heap.size w6 wr) (fun _ _ iv _=>n - (intOf iv).toNat)
   case atStart=>exact ⟨0,0,0,0,0,false,Nat.zero_le _,rfl,rfl,rfl,aa ⟨rfl,rfl⟩,H7.out.1,H7.out.2⟩
   case round =>
    obtain ⟨i,k,f1,f2,f3,fo,hi,rfl,rfl,rfl,HST,h11,hb⟩:=hrel;obtain ⟨wo,jy⟩:=ab (wr);subst jy;have H11:=aa h11;have ic:=aa hb;have q2:=(mG.out.below hb mG.out.lt).cell 2 _ rfl;clear h11 hb H7
    by_cases hO:i<n
    ·have d1:(i:Int)<(n:Int):=by omega
     go_wp2;clear q2
     go_loopw [10,12,14] (fun kv fv jv wr=>∃ (j k:Nat) (f1 f2 f3:Int) (fo:Bool),j<=W0/\jv=.int .i64 j/\kv=.int .i64 k/\fv=.bool fo/\Hid (k=(preH vv.L W0 n x i j).length/\bc (preH vv.L W0 n x i j) ar ac=((f1,f2,f3),fo))/\Has wr g11 [.int .i64 f1,.int .i64 f2,.int .i64 f3] 80/\Below w6.heap.size w6 wr) (fun _ _ jv _=>W0 - (intOf jv).toNat)
     case atStart=>exact ⟨0,k,f1,f2,f3,fo,Nat.zero_le _,rfl,rfl,rfl,HST,H11.out,ic.out⟩
     case round =>
      clear HST H11 ic;obtain ⟨j,k,f1,f2,f3,fo,hj,rfl,rfl,rfl,HST,h11,hb⟩:=hrel;obtain ⟨ws,lH⟩:=ab (wr);subst lH;have H11:=aa h11;have ic:=aa hb;have kQ:=aa (mG.out.below hb mG.out.lt);have gS:=aa (ke.out.trans (hb.mono ke.out.size));have q0:=kQ.out.cell 0 _ rfl;have q2:=kQ.out.cell 2 _ rfl;clear h11 hb
      by_cases nV:j<W0
      ·have d2:(j:Int)<(W0:Int):=by omega
       obtain ⟨lb,off,cv,e0,iw,_,l0,_,hcv⟩:=ik.out i (by rw [iL.out];exact hO);subst e0;have it:=iT.out i hO;obtain ⟨co,cc,ecv⟩:=hcv.len;rw [it] at ecv;subst ecv;obtain ⟨g6,hcc,iA⟩:=aX hcv;clear g6;obtain ⟨cb,coff,xv,rfl,hcb,_,x0,_,_⟩:=iA j (by omega);have iJ:=HKC.out i j hO nV;obtain ⟨K,hK⟩:=ab (aq vv.L i j);rw [show ((vv.L.getD i zl).1.getD j zc).1=K from hK.symm] at x0;have l0:=(gS.out.cell (p:=⟨lb,off+i * 2,none⟩) iw).trans l0;have x0:=(gS.out.cell (p:=⟨cb,coff+j * 2,none⟩) hcb).trans x0;have hic:i<lc:=by omega
       have hjc:j<cc:=by omega
       have mE:=pre_col vv.L W0 n x i j;have hPA:=pre_all vv.L W0 n x i (j+1) hO (by omega);have m3:cZ vv.L W0 n x i j=if K=1\/K=2 then (if dv vv W0 n x i j=0 then [] else ([((i:Int),(j:Int),((dv vv W0 n x i j:Nat):Int))]:List Ht)) else []:=by rw [hK];rfl
       have HCJ:=aa (fun (h:K=1\/K=2)=>nL.out i j ⟨by rw [<-hK];exact h,hO,nV⟩ _ gS.out);have HNH:=aa (show ¬ (K=1\/K=2)->preH vv.L W0 n x i (j+1)=preH vv.L W0 n x i j from fun h=>by rw [mE,m3,if_neg h,List.append_nil]);have mJ:=aa (show (K=1\/K=2)->dv vv W0 n x i j=0->preH vv.L W0 n x i (j+1)=preH vv.L W0 n x i j from fun h h9=>by rw [mE,m3,if_pos h,if_pos h9,List.append_nil]);have mU:=aa (show (K=1\/K=2)->dv vv W0 n x i j≠0->preH vv.L W0 n x i (j+1)=preH vv.L W0 n x i j++([((i:Int),(j:Int),((dv vv W0 n x i j:Nat):Int))]:List Ht) from fun h h9=>by rw [mE,m3,if_pos h,if_neg h9]);have lR:=aa hPA;clear iw hcv it iA hcb iJ hK mE hPA m3;have hjm:j<=1024:=by omega
       by_cases hk:K=1\/K=2
       ·have jF:=aa (HCJ.out hk);have mJ:=aa (mJ.out hk);have mU:=aa (mU.out hk);obtain ⟨cn,g6⟩:=ab (dv vv W0 n x i j);rw [<-g6] at jF mJ mU;have q1:=kQ.out.cell 1 _ rfl;have q3:=kQ.out.cell 3 _ rfl;have q4:=kQ.out.cell 4 _ rfl;have q5:=kQ.out.cell 5 _ rfl;have q6:=kQ.out.cell 6 _ rfl;clear g6 HCJ HNH
        go_upto_region 16 with (fail)
        go_cut [99] from 76 to 99 (fun cv wx=>cv=.bool false/\wx=ws)
        case first =>
         rcases hk with rfl | rfl
         ·go_wp2;go_meet
          case rel=>exact ⟨rfl,rfl⟩
         ·go_wp2;go_meet
          case rel=>exact ⟨rfl,rfl⟩
        case rest =>
         obtain ⟨rfl,jo⟩:=hcut;obtain ⟨wp,mg⟩:=ab (wc);subst mg;subst jo;clear hk x0 l0
         go_wp2_with fail
         refine jF.out.mono ?_;rintro e w9 ⟨rfl,b9⟩;have H119:=aa (H11.out.below b9 H11.out.lt);have lA:=aa (ic.out.trans (b9.mono ic.out.size));clear b9 q0 q1 q2 q3 q4 q5 q6
         by_cases hc0:cn=0
         ·subst hc0;have HE:=aa (mJ.out rfl);go_wp2
          go_roundw
          case rel=>exact ⟨j+1,k,f1,f2,f3,fo,by omega,by go_num,rfl,rfl,aa (by rw [HE.out];exact HST.out),H119.out,lA.out⟩
          case measure=>simp [intOf] <;> omega
         ·have d3:((cn:Int) == 0)=false:=by rw [beq_eq_false_iff_ne];omega
          have d4:(cn == 0)=false:=by rw [beq_eq_false_iff_ne];exact hc0
          have HE:=aa (mU.out hc0);clear hc0;obtain ⟨rest,jw⟩:=lR.out;rw [HE.out] at jw;have m9:k<l.length/\l.getD k zht=((i:Int),(j:Int),(cn:Int)):=by
           rw [lI.out,<-jw,HST.out.1];refine ⟨by simp only [List.length_append,List.length_cons,List.length_nil];omega,?_⟩;rw [List.getD_eq_getElem?_getD,List.append_assoc,List.getElem?_append_right (Nat.le_refl _),Nat.sub_self]
           rfl
          obtain ⟨zb,zoff,e0,hzb,_,c0,c1,c2⟩:=jW.out k m9.1;subst e0;rw [m9.2] at c0 c1 c2;simp only at c0 c1 c2;have hknl:k<nl:=by rw [HNLL.out];exact m9.1
          have lh:k<zk:=by omega
          have d5:decide ((nl:Int)<=(k:Int))=false:=ah (by omega);have mN:=aa (next_snoc (preH vv.L W0 n x i j) ar ac ((i:Int),(j:Int),(cn:Int)));rw [HST.out.2] at mN;simp only at mN;have lU:=aa (show k+1=(preH vv.L W0 n x i (j+1)).length from by rw [HE.out,List.length_append,HST.out.1];rfl);obtain ⟨WA,mI⟩:=ab (w9.alloc (.cells [Value.int .i64 (i:Int),.int .i64 (j:Int),.int .i64 (cn:Int)].toArray 80));have bA:Below w9.heap.size w9 WA:=by rw [mI];exact af _ _
          have hA:Has WA w9.heap.size [.int .i64 (i:Int),.int .i64 (j:Int),.int .i64 (cn:Int)] 80:=by rw [mI];exact Has.new w9 _ _
          have iY:=aa (show w9.alloc (.cells #[Value.int .i64 (i:Int),.int .i64 (j:Int),.int .i64 (cn:Int)] 80)=WA from by rw [mI]);obtain ⟨gw,nT⟩:=ab (w9.heap.size);have HGW:=aa nT;rw [<-nT] at hA;have HAA:=aa hA;have H11A:=aa (H119.out.below bA H119.out.lt);have lQ:=aa (lA.out.trans (bA.mono lA.out.size));have c0:=(lQ.out.cell (p:=⟨zb,zoff+k * 3,none⟩) hzb).trans c0;have c1:=(lQ.out.cell (p:=⟨zb,zoff+k * 3+1,none⟩) hzb).trans c1;have c2:=(lQ.out.cell (p:=⟨zb,zoff+k * 3+2,none⟩) hzb).trans c2;have y0:=hA.cell 0 _ rfl;have y1:=hA.cell 1 _ rfl;have y2:=hA.cell 2 _ rfl;have hes:=c6 (i:Int) (j:Int) (cn:Int);clear jw m9 hzb mI bA hA nT
          go_upto_region 20 with (fail)
          rw [iY.out,<-HGW.out]
          go_quiet (fail)
          obtain ⟨wq,iE⟩:=ab (WA.drewN nq);have bq:Below WA.heap.size WA wq:=by rw [iE];exact (Below.refl _ _).drewN nq
          have od:=aa (HAA.out.below bq HAA.out.lt);have H11Q:=aa (H11A.out.below bq H11A.out.lt);have iD:=aa (lQ.out.trans (bq.mono lQ.out.size));have mz:=aa (HA6.out.below iD.out HA6.out.lt);rw [<-iE];clear iE bq c0 c1 c2 y0 y1 y2 hes d5;have hkm:k<=2000000000:=by omega
          cases fo with
          |true =>
           have j4:=aa (show k+1=(preH vv.L W0 n x i (j+1)).length/\bc (preH vv.L W0 n x i (j+1)) ar ac=((f1,f2,f3),true) from ⟨lU.out,by rw [HE.out];exact mN.out.trans (if_pos rfl)⟩);go_wp2
           go_roundw
           case rel=>exact ⟨j+1,k+1,f1,f2,f3,true,by omega,by go_num,by go_num,rfl,j4,H11Q.out,iD.out⟩
           case measure=>simp [intOf] <;> omega
          |false =>
           have j1:=aa (mN.out.trans (if_neg (by decide)));have p0:=mz.out.cell 0 _ rfl;have p1:=mz.out.cell 1 _ rfl;have y0:=od.out.cell 0 _ rfl;have y1:=od.out.cell 1 _ rfl;have y2:=od.out.cell 2 _ rfl
           by_cases h1:ar<(i:Int)
           ·have e1:decide (ar<(i:Int))=true:=decide_eq_true h1;have j4:=aa (show k+1=(preH vv.L W0 n x i (j+1)).length/\bc (preH vv.L W0 n x i (j+1)) ar ac=(((i:Int),(j:Int),(cn:Int)),true) from ⟨lU.out,by rw [HE.out];exact j1.out.trans (if_pos (by unfold aT;simp only;rw [e1,Bool.true_or]))⟩);clear h1;have f0:=H11Q.out.free 0;have f1':=H11Q.out.free 1;have f2':=H11Q.out.free 2;have x0:=H11Q.out.cell 0 _ rfl;have x1:=H11Q.out.cell 1 _ rfl;have x2:=H11Q.out.cell 2 _ rfl;obtain ⟨wt,hwt⟩:=ab ((((wq.setCell ⟨g11,0,none⟩ (.int .i64 (i:Int))).setCell ⟨g11,1,none⟩ (.int .i64 (j:Int))).setCell ⟨g11,2,none⟩ (.int .i64 (cn:Int))));have ml:=aa (show Has wt g11 [.int .i64 (i:Int),.int .i64 (j:Int),.int .i64 (cn:Int)] 80/\Below w6.heap.size w6 wt from by
             rw [hwt];exact ⟨((H11Q.out.set 0 _).set 1 _).set 2 _,iD.out.trans (((((Upd.refl (fun z=>z=g11) wq).setCell (p:=⟨g11,0,none⟩) (.inl rfl) _).setCell (p:=⟨g11,1,none⟩) (.inl rfl) _).setCell (p:=⟨g11,2,none⟩) (.inl rfl) _).below iD.out.size (fun z e=>by have:=ll.out;omega))⟩)
            have n3:=aa hwt.symm;clear hwt;go_wp2;rw [n3.out]
            go_roundw
            case rel=>exact ⟨j+1,k+1,(i:Int),(j:Int),(cn:Int),true,by omega,by go_num,by go_num,rfl,j4,ml.out.1,ml.out.2⟩
            case measure=>simp [intOf] <;> omega
           ·have e1:decide (ar<(i:Int))=false:=decide_eq_false h1;clear h1
            by_cases h2:(i:Int)=ar
            ·have e2:((i:Int) == ar)=true:=by rw [beq_iff_eq];exact h2
             have lg:=aa e2
             by_cases h3:ac<=(j:Int)
             ·have e3:decide (ac<=(j:Int))=true:=decide_eq_true h3;have j4:=aa (show k+1=(preH vv.L W0 n x i (j+1)).length/\bc (preH vv.L W0 n x i (j+1)) ar ac=(((i:Int),(j:Int),(cn:Int)),true) from ⟨lU.out,by rw [HE.out];exact j1.out.trans (if_pos (by unfold aT;simp only;rw [e1,e2,e3];rfl))⟩);clear h2 h3;have f0:=H11Q.out.free 0;have f1':=H11Q.out.free 1;have f2':=H11Q.out.free 2;have x0:=H11Q.out.cell 0 _ rfl;have x1:=H11Q.out.cell 1 _ rfl;have x2:=H11Q.out.cell 2 _ rfl;obtain ⟨wt,hwt⟩:=ab ((((wq.setCell ⟨g11,0,none⟩ (.int .i64 (i:Int))).setCell ⟨g11,1,none⟩ (.int .i64 (j:Int))).setCell ⟨g11,2,none⟩ (.int .i64 (cn:Int))));have ml:=aa (show Has wt g11 [.int .i64 (i:Int),.int .i64 (j:Int),.int .i64 (cn:Int)] 80/\Below w6.heap.size w6 wt from by
               rw [hwt];exact ⟨((H11Q.out.set 0 _).set 1 _).set 2 _,iD.out.trans (((((Upd.refl (fun z=>z=g11) wq).setCell (p:=⟨g11,0,none⟩) (.inl rfl) _).setCell (p:=⟨g11,1,none⟩) (.inl rfl) _).setCell (p:=⟨g11,2,none⟩) (.inl rfl) _).below iD.out.size (fun z e=>by have:=ll.out;omega))⟩)
              have n3:=aa hwt.symm;clear hwt;go_wp2;rw [n3.out]
              go_roundw
              case rel=>exact ⟨j+1,k+1,(i:Int),(j:Int),(cn:Int),true,by omega,by go_num,by go_num,rfl,j4,ml.out.1,ml.out.2⟩
              case measure=>simp [intOf] <;> omega
             ·have e3:decide (ac<=(j:Int))=false:=decide_eq_false h3;have HZ:=aa (next_none (preH vv.L W0 n x i j) ar ac (by rw [HST.out.2]));rw [HST.out.2] at HZ;have hz:=HZ.out;simp only [zht,Prod.mk.injEq] at hz;obtain ⟨rfl,rfl,rfl⟩:=hz;have j4:=aa (show k+1=(preH vv.L W0 n x i (j+1)).length/\bc (preH vv.L W0 n x i (j+1)) ar ac=(((0:Int),(0:Int),(0:Int)),false) from ⟨lU.out,by rw [HE.out];exact j1.out.trans (if_neg (by unfold aT;simp only;rw [e1,e2,e3];decide))⟩);clear h2 h3;go_wp2
              go_roundw
              case rel=>exact ⟨j+1,k+1,0,0,0,false,by omega,by go_num,by go_num,rfl,j4,H11Q.out,iD.out⟩
              case measure=>simp [intOf] <;> omega
            ·have e2:((i:Int) == ar)=false:=by rw [beq_eq_false_iff_ne];exact h2
             have HZ:=aa (next_none (preH vv.L W0 n x i j) ar ac (by rw [HST.out.2]));rw [HST.out.2] at HZ;have hz:=HZ.out;simp only [zht,Prod.mk.injEq] at hz;obtain ⟨rfl,rfl,rfl⟩:=hz;have j4:=aa (show k+1=(preH vv.L W0 n x i (j+1)).length/\bc (preH vv.L W0 n x i (j+1)) ar ac=(((0:Int),(0:Int),(0:Int)),false) from ⟨lU.out,by rw [HE.out];exact j1.out.trans (if_neg (by unfold aT;simp only;rw [e1,e2,Bool.false_and];decide))⟩);clear h2;go_wp2
             go_roundw
             case rel=>exact ⟨j+1,k+1,0,0,0,false,by omega,by go_num,by go_num,rfl,j4,H11Q.out,iD.out⟩
             case measure=>simp [intOf] <;> omega
       ·have lw:¬ K=1:=fun e=>hk (.inl e)
        have hk2:¬ K=2:=fun e=>hk (.inr e)
        have d3:(K == 1)=false:=by rw [beq_eq_false_iff_ne];exact lw
        have d4:(K == 2)=false:=by rw [beq_eq_false_iff_ne];exact hk2
        have d5:(K != 1)=true:=by rw [bne_iff_ne];exact lw
        have d6:(K != 2)=true:=by rw [bne_iff_ne];exact hk2
        have HE:=aa (HNH.out hk);clear hk lw hk2;go_wp2
        go_roundw
        case rel=>exact ⟨j+1,k,f1,f2,f3,fo,by omega,by go_num,rfl,rfl,aa (by rw [HE.out];exact HST.out),H11.out,ic.out⟩
        case measure=>simp [intOf] <;> omega
      ·obtain rfl:j=W0:=by omega
       have d2:¬ (j:Int)<(j:Int):=by omega
       have HE:=aa (pre_row vv.L j n x i);have him:i<=1024:=by omega
       go_wp2
       go_roundw
       case rel=>exact ⟨i+1,k,f1,f2,f3,fo,by omega,by go_num,rfl,rfl,aa (by rw [<-HE.out];exact HST.out),H11.out,ic.out⟩
       case measure=>simp [intOf] <;> omega
    ·obtain rfl:i=n:=by omega
     have d1:¬ (i:Int)<(i:Int):=by omega
     have hfin:=HST.out;rw [<-lI.out] at hfin;obtain ⟨rfl,iu⟩:=hfin;have iz:=jr.out.trans iu;simp only [Prod.mk.injEq] at iz;obtain ⟨⟨rfl,rfl,rfl⟩,rfl⟩:=iz;have k0:=(H86.out.below ic.out H86.out.lt).cell 0 _ rfl;have k1:=(H86.out.below ic.out H86.out.lt).cell 1 _ rfl;have k2:=(H86.out.below ic.out H86.out.lt).cell 2 _ rfl;have m0:=H11.out.cell 0 _ rfl;have m1:=H11.out.cell 1 _ rfl;have m2:=H11.out.cell 2 _ rfl;have hes:=c6 fa fb fc;have hnn2:nl=l.length:=HNLL.out;have HF:=aa (ke.out.trans (ic.out.mono ke.out.size));rw [<-hnn2];clear iu hO hnn2 mv;go_wp2;go_ret;exact ⟨ae,HF.out⟩
theorem walk{H:Type}{enc:TypeId × Value->H}(W:World)(x:Value){bs0:Nat}{d0:DataW H}{p0:List MemPlace}(hx:Value.okWide Tryd.prog W .any bs0 26 x)(h0:DataW.Trod enc Tryd.prog W 0 (fun _=>true) true 26 x d0 p0)
  (y:Value) {bs1:Nat} {d1:DataW H} {p1:List MemPlace} (hy:Value.okWide Tryd.prog W .any bs1 57 y) (h1:DataW.Trod enc Tryd.prog W 0 (fun _=>true) true 57 y d1 p1)
  (z:Value) {bs2:Nat} {d2:DataW H} {p2:List MemPlace} (hz:Value.okWide Tryd.prog W .any bs2 76 z) (h2:DataW.Trod enc Tryd.prog W 0 (fun _=>true) true 76 z d2 p2)
  (hL:laidMetH Tryd.prog Rows.searchFindsRow.laid W) (hsz:(DataW.weightsEach Tryd.prog (#[26,57,76].toList++Rows.searchFindsSpec.plain.varTypes Tryd.prog) ([d0,d1,d2]++[])).all (· <= reachBytes)=true):Calls Tryd.prog 9 #[x,y,z] W (Yes W):=by
 obtain ⟨sa,hsa⟩:=eb hL;have hw:∀ z ∈ d0.weights Tryd.prog 26,z<=reachBytes:=by
  simp only [List.all_eq_true,DataW.weightsEach,List.cons_append,List.nil_append] at hsz;intro z hz;exact of_decide_eq_true (hsz z (List.mem_append.2 (.inl hz)))
 obtain ⟨v,lv,rfl,hl,e0,e1,hr⟩:=fQ hx h0 hw;obtain ⟨xs,hb,_⟩:=fB (E:=aF .i32) Tryd.underlying57 (by kernel_rfl) (by decide) (bl (k:=.i32) Tryd.underlying21 (by kernel_rfl)) hy h1;obtain ⟨b0,b1,rfl⟩:=place_arg hz h2;exact walkN W sa hsa v lv hl e0 e1 hr y xs (hb.zone (fun _ _ _=>trivial)) b0 b1
theorem door_met(os:Os):laidMetH Tryd.prog Rows.searchFindsRow.laid ((World.doorLaid Tryd.prog 400 os).forCall (fun _ _=>0) ⟨#[],#[.agg #[.int .i64 0,.int .i64 0,.slice none 0 0,.int .i64 0,.int .i64 0,.bool false,.bool false],.slice none 0 0,.agg #[.int .i64 0,.int .i64 0]],[]⟩).memory :=
 laidMetH_of_parts3 (fuel:=8) (laidMet_of_run' 8 (by kernel_rfl) (by kernel_rfl)) (by kernel_rfl) (by kernel_rfl)
theorem lifted(os:Os)(started:os.Started)(H:Type)(enc:TypeId × Value->H) :
  ReturnsInHanded {} Tryd.checked os 9 .any (fun w args=>(Rows.searchFindsSpec.pre enc Tryd.prog Tryd.f9 [] false w args/\laidMetH Tryd.prog Rows.searchFindsRow.laid w)/\sizedMet enc Tryd.prog Tryd.f9 (OpenSpec.ofChange Rows.searchFindsSpec) false w args)
   (Rows.searchFindsSpec.post enc Tryd.prog Tryd.f9 false true false false):=by
 refine fO (C:=Tryd.checked) (tb:=4) (by kernel_rfl) started (by kernel_rfl) Tryd.func9 (by kernel_rfl) (by kernel_rfl) Tryd.underlying4 rfl
  (by rw [Tryd.params9];intro t ht;simp at ht;rcases ht with rfl | rfl | rfl <;> exact ⟨by kernel_rfl,of_decide_eq_true (by kernel_rfl)⟩)
  (by rw [Tryd.params9];intro ds hd;match ds,hd with | [_,_,_],_=>rfl)
  (ChangeSpec.witness_shaped (enc:=enc) (C:=Tryd.checked) (os:=os) (X:=fun w _=>laidMetH Tryd.prog Rows.searchFindsRow.laid w) false (World.doorLaid Tryd.prog 400 os) #[.agg #[.int .i64 0,.int .i64 0,.slice none 0 0,.int .i64 0,.int .i64 0,.bool false,.bool false],.slice none 0 0,.agg #[.int .i64 0,.int .i64 0]] 8 rfl (World.shaped_of_RefB (by kernel_rfl) (by kernel_rfl)) (by kernel_rfl) (by kernel_rfl) (by kernel_rfl) (door_met os)) ?_
 intro W base args ds before hval hA hsz hL;rw [Tryd.params9] at hA hval hsz;obtain ⟨v0,vs0,d0,ds0,p0,q0,hargs,rfl,rfl,h0,r0⟩:=trodAll_cons hA;obtain ⟨v1,vs1,d1,ds1,p1,q1,rfl,rfl,rfl,h1,r1⟩:=trodAll_cons r0;obtain ⟨v2,vs2,d2,ds2,p2,q2,rfl,rfl,rfl,h2,r2⟩:=trodAll_cons r1;obtain ⟨rfl,rfl,rfl⟩:=trodAll_nil r2;obtain rfl:args=#[v0,v1,v2]:=by cases args;simp_all
 exact walk W v0 (hval 0 26 v0 rfl rfl) h0 v1 (hval 1 57 v1 rfl rfl) h1 v2 (hval 2 76 v2 rfl rfl) h2 hL hsz
theorem and_two{a b:Bool}(ha:a=true)(hb:b=true):(a && b)=true:=by rw [ha,hb];rfl
theorem joined:joinedFacts Tryd.pinned.checked.prog 9 Tryd.f9 Rows.searchFindsSpec Rows.searchFindsRow=true:=by
 unfold joinedFacts
 repeat' (with_reducible refine and_two ?_ ?_)
 all_goals (as_aux_lemma=>kernel_rfl)
theorem said:Rows.SearchFindsSaid :=
 OpenClaim.holds_of_wide 9 Tryd.f9 rfl rfl rfl rfl rfl rfl rfl ⟨rfl,rfl,rfl,rfl,rfl⟩ rfl rfl rfl rfl rfl (by kernel_rfl) Tryd.func9 joined
  (of_decide_eq_true (by kernel_rfl)) (by unfold Func.isWrapper;first | (rw [if_pos (by decide +kernel)];kernel_rfl) | (rw [if_neg (by decide +kernel)];exact ⟨rfl,rfl⟩))
  (fun os started H enc _=>lifted os started H enc)
theorem plain (f : FuncId) (fn : Func) (hf : Tryd.pinned.checked.prog.funcNamed "linotype/linotypelaw53.SearchFinds" = some f) (hfn : Tryd.pinned.checked.prog.funcs[f]? = some fn) :
  true=Tryd.pinned.checked.prog.looks []/\∀ (j:Nat) t,fn.params[j]? = some t->Tryd.pinned.checked.prog.wantsStandIn t=false:=by
 obtain rfl : f = 9 := Option.some.inj ((show Tryd.prog.funcNamed "linotype/linotypelaw53.SearchFinds" = some 9 by kernel_rfl).symm.trans hf) |>.symm
 obtain rfl:fn=Tryd.f9:=(Option.some.inj (Tryd.func9.symm.trans hfn)).symm;refine ⟨by kernel_rfl,fun j t ht=>?_⟩;rw [Tryd.params9] at ht;have hm:t ∈ [26,57,76]:=by simpa using Array.mem_of_getElem? ht
 have hall:([26,57,76].all fun u=>!Tryd.prog.wantsStandIn u)=true:=by kernel_rfl
 exact (show Tryd.prog.wantsStandIn t=false by simpa using List.all_eq_true.1 hall t hm)
theorem card:Rows.SearchFindsCardSaid :=
 Claim7.holds_tied_plain_at .later [] _ _ _ _ said (fun _ h=>by cases h) (by kernel_rfl) (fun _ h=>by cases h) searchFinds_row_tie rfl ⟨rfl,rfl⟩ (by kernel_rfl) rfl plain (by kernel_rfl)
#print axioms card
end Go.Proofs.YthdphijabffpiaaDoor.lawSearchFinds
