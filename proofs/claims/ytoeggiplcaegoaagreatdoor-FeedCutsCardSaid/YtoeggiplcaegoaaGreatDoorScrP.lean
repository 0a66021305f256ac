import Derived.Test.YtoeggiplcaegoaaGreatDoorZ0
import Derived.Test.YtoeggiplcaegoaaGreatDoorMg7
import Derived.Test.YtoeggiplcaegoaaGreatDoorMg1
import Derived.Lib.MinMax
set_option maxRecDepth 100000
set_option linter.unusedVariables false
set_option linter.unusedSimpArgs false
set_option maxHeartbeats 16000000
namespace Go.Proofs.YtoeggiplcaegoaaGreatDoor
open Go.RowKit Go.ChangeShapes Go.WideShapes
def bX(Ls:List Ln)(f t q:Nat)(up:Bool)(k:Nat):List Ln:=(List.range k).map (cL Ls f t q up)
theorem cf(Ls:List Ln)(f t q:Nat)(up:Bool)(k:Nat):bX Ls f t q up (k+1)=bX Ls f t q up k++[cL Ls f t q up k]:=by unfold bX;rw [List.range_succ,List.map_append];rfl
theorem cE(Ls:List Ln)(f t q:Nat)(up:Bool)(k:Nat):(bX Ls f t q up k).length=k:=by simp [bX]
theorem cZ:(Tryz.prog.info? 104).map (·.size)=some 2:=by kernel_rfl
theorem uv{α:Type}{E:Elem α}{Z Y:an}{w:World}{B:Nat}{ty:TypeId}{v:Value}{L:List α}(h:OwnE E Z w B ty v L)(hy:∀ b,b<w.heap.size->Z b->Y b):OwnE E Y w B ty v L:=h.keep (.refl _ _) hy
theorem xh(v:Value)(Z:an)(Ls:List Ln)(a b k:Int)(f t q:Nat)(w:World)(hv:HeldE lineE Z w v Ls)(hZ:∀ b,Z b->b<w.heap.size)(hl:Ls.length<=1000)(KD:∀ i,i<Ls.length->(Ls.getD i zl).1.length<=1024)(hf:bD Ls.length a=f)(ht:bD Ls.length b=t)(hk:cB Ls.length a b k=(q:Int))(hq:0<q):Calls Tryz.prog 170 #[v,.int .i64 a,.int .i64 b,.int .i64 k,.bool true] w (fp lineE (fun b=>Z b\/w.heap.size<=b) 104 w (gM Ls f t q true)):=by
 obtain ⟨n,hn⟩:=ae (Ls.length);have Jt:t<=n:=by rw [hn,<-ht];exact fm _ _
 rw [<-hn] at hl hf ht hk KD;have h1:max 0 (min a (n:Int))=(f:Int):=by rw [<-hf];unfold bD;omega
 have h2:max 0 (min b (n:Int))=(t:Int):=by rw [<-ht];unfold bD;omega
 unfold cB at hk;rw [hf,ht] at hk;have I6:f<t:=by omega
 have NT:q<=t - f:=by omega
 obtain ⟨ao,ca,rfl⟩:=hv.len;obtain ⟨_,_,hc⟩:=fo hv;obtain ⟨b0,off0,hao⟩ : ∃ b0 off0,ao=some ⟨b0,off0,none⟩:=by
  obtain ⟨b0,off0,_,h,_⟩:=hc 0 (by omega);exact ⟨b0,off0,h⟩
 subst hao;have HC:=ab (show ∀ i,i<n->∃ v,b0<w.heap.size/\Z b0/\w.cell? ⟨b0,off0+i * 2,none⟩=some v/\w.cell? ⟨b0,off0+i * 2+1,none⟩=some (.bool (Ls.getD i zl).2)/\HeldE cellE Z w v (Ls.getD i zl).1 from fun i hi=>by
  obtain ⟨b,off,v,e,r⟩:=hc i (by rw [<-hn];exact hi)
  cases e
  exact ⟨v,r⟩)
 have I8:=ab KD;have HZ:=ab hZ;have KB:=ab Jt;have BM:=ab (show bX Ls f t q true n=gM Ls f t q true from by unfold bX gM;rw [hn]);rw [<-hn];obtain ⟨i0,hi,hz0,hz1,hz2⟩:=info_parts cF;have HI:=ab (And.intro hi (And.intro hz0 (And.intro hz1 hz2)));have d1:decide ((t:Int)<=f)=false:=ai (by omega);have d1n:decide (t<=f)=false:=ai (by omega);have d2:decide (k<1)=false:=ai (by omega);have d3:IntKind.i64.wrap ((t:Int) - f)=(t:Int) - f:=by rw [IntKind.wrap_i64];omega
 clear hi hz0 hz1 hz2 hn hc hv KD hZ hf ht
 go_enter Tryz.func170,Tryz.ntmps170
 go_wp2
 try rw [hk]
 go_loopw [12,13] (fun o i wr=>∃ k:Nat,k<=n/\i=.int .i64 k/\OwnE lineE (fun b=>Z b\/w.heap.size<=b) wr w.heap.size 104 o (bX Ls f t q true k)/\Below w.heap.size w wr) (fun _ i _=>n - (intOf i).toNat)
 case atStart=>exact ⟨0,Nat.zero_le _,rfl,OwnE.nil _ _ _ _ _,Below.refl _ _⟩
 case round =>
  obtain ⟨i,hi,rfl,hown,AY⟩:=hrel;have Bf:=ab AY;obtain ⟨ov,JW⟩:=ae (u12);rw [<-JW] at hown ⊢;clear JW AY d1 d1n d2 d3 h1 h2 hk
  by_cases hlt:i<n
  ·by_cases Da:i<f
   ·by_cases hw2:i+1=f
    ·obtain ⟨lv,hb0,hz0,c0,c1,hh⟩:=HC.out i hlt;have Cw:=I8.out i hlt;obtain ⟨⟨X,wb⟩,hX⟩ : ∃ y,y=Ls.getD i zl:=⟨_,rfl⟩;rw [<-hX] at c1 hh Cw;simp only at c1 hh Cw;have Fe:=ab hX;obtain ⟨a1,x1,rfl⟩:=hh.len;obtain ⟨m,hm⟩:=ae (X.length);rw [<-hm] at c0 Cw;have HM:=ab hm;have D4:=ab (show ∀ w9,Below w.heap.size w w9->w9.cell? ⟨b0,off0+i * 2,none⟩=some (.slice a1 m x1) from fun w9 h=>(h.cell (p:=⟨b0,off0+i * 2,none⟩) hb0).trans c0);have c0:=D4.out wr Bf.out;have c1:=(Bf.out.cell (p:=⟨b0,off0+i * 2+1,none⟩) hb0).trans c1;have BH:=ab (show ∀ b,ov.ownBlock=some b->w.heap.size<=b/\b<wr.heap.size from hown.lt);obtain ⟨gb,hgb⟩:=ae (wr.heap.size);rw [<-hgb] at BH;obtain ⟨W1,hW1⟩:=ae (wr.alloc (.cells #[.slice a1 m x1,.bool wb] 104));have hb1:Below wr.heap.size wr W1:=by rw [hW1];exact AU _ _
     have Cg:=ab (show OwnE lineE (fun b=>(Z b\/w.heap.size<=b)/\b<gb) W1 w.heap.size 104 ov (bX Ls f t q true i) from (hown.zone (fun b hb hz=>⟨hz,by rw [hgb];exact hb⟩)).below hb1);have DJ:=ab hgb;have BI:=ab (show w.heap.size<=gb from by rw [hgb];exact Bf.out.size);have HH:=ab (show Has W1 gb [.slice a1 m x1,.bool wb] 104 by rw [hW1,hgb];exact Has.new wr _ _);have Bt:=ab (Bf.out.trans (hb1.mono Bf.out.size));have Gk:=ab (show HeldE cellE (fun b=>(Z b\/w.heap.size<=b)/\b≠gb/\ov.ownBlock≠some b) W1 (.slice a1 m x1) X from by rw [hm];exact (hh.below Bt.out).zone (fun b _ hz=>⟨.inl hz,fun e=>by have:=HZ.out b hz;have:=BI.out;omega,fun e=>by have:=HZ.out b hz;have:=(BH.out b e).1;omega⟩));have Co:=ab (cf Ls f t q true i);have Ch:=ab (cE Ls f t q true i);obtain ⟨MP,Du⟩:=ae (bX Ls f t q true i);rw [<-Du] at Cg Co Ch;clear hown hh hX hm hb1 hgb hb0 hz0 Du
     go_upto_region 11 with (fail)
     go_upto_region 12 with (fail)
     rw [<-DJ.out,<-hW1];clear hW1 c0 c1;have t1:decide ((f:Int)<=i)=false:=ai (by omega);have t1n:decide (f<=i)=false:=ai (by omega)
     go_upto_region 19 with (fail)
     obtain ⟨Wm,BG⟩:=ae (W1);obtain ⟨VV,Ct⟩:=ae (Value.slice a1 m x1);obtain ⟨VL,Cs⟩:=ae (X);obtain ⟨wm_,CW⟩:=ae (wb);have BO:=ab (show Has Wm gb [VV,.bool wm_] 104 from by rw [BG,Ct,CW];exact HH.out);have Ev:=ab (show HeldE cellE (fun b=>(Z b\/w.heap.size<=b)/\b≠gb/\ov.ownBlock≠some b) Wm VV VL from by rw [BG,Ct,Cs];exact Gk.out);have EI:=ab (show OwnE lineE (fun b=>(Z b\/w.heap.size<=b)/\b<gb) Wm w.heap.size 104 ov MP from by rw [BG];exact Cg.out);have D8:=ab (show Below w.heap.size w Wm from by rw [BG];exact Bt.out);rw [<-BG];have OFFP:i+1=f\/(true=false/\i+1=t):=.inl (by omega);have Cq:=ab (show cL Ls f t q true i=(VL,false) from by
      unfold cL gO;rw [if_neg (show ¬ (f<=i/\i<t) by omega),<-Fe.out,Cs,if_pos OFFP])
     clear Ct Cs CW BG;clear OFFP;have s1:(((i:Nat):Int)+1 == (f:Int))=true:=by rw [beq_iff_eq];omega
     have s1n:(i+1 == f)=true:=by rw [beq_iff_eq];omega
     go_upto_region 20 with (fail)
     have q1:=BO.out.cell 1 _ rfl;have q1f:=BO.out.free 1
     go_upto_region 21 with (fail)
     clear q1 q1f;obtain ⟨W5,CK⟩:=ae (Wm.setCell ⟨gb,1,none⟩ (.bool false));have BK:=ab (show Has W5 gb [VV,.bool false] 104 from by rw [CK];exact BO.out.set 1 (.bool false));have u5:Upd (fun b=>b=gb) Wm W5:=by rw [CK];exact (Upd.refl (fun b=>b=gb) Wm).setCell (p:=⟨gb,1,none⟩) (.inl rfl) (.bool false)
     have Dv:=ab (Ev.out.upd u5 (fun b hz=>hz.2.1));have Dh:=ab (EI.out.upd u5 (fun b hz=>by rcases hz with hz | hz;exact Nat.ne_of_lt hz.2;exact Nat.ne_of_lt (BH.out b hz).2));have BZ:=ab (D8.out.upd u5 D8.out.size (fun b e=>by subst e;exact BI.out));rw [<-CK];clear CK u5;have q0:=BK.out.cell 0 _ rfl;have q1:=BK.out.cell 1 _ rfl;have CA:=ab Dh.out.lt;have BF:Below W5.heap.size W5 (W5.alloc (.cells [VV,.bool false].toArray 104)):=AU _ _;have HX:=ab (show HeldE lineE (fun b=>(Z b\/w.heap.size<=b)/\ov.ownBlock≠some b) (W5.alloc (.cells [VV,.bool false].toArray 104)) (.slice (some ⟨W5.heap.size,0,none⟩) 1 1) [cL Ls f t q true i] from by
      rw [Cq.out];exact aT (Y:=fun b=>(Z b\/w.heap.size<=b)/\b≠gb/\ov.ownBlock≠some b) [VV,.bool false] (VL,false) (line_rep.2 ⟨_,rfl,Dv.out⟩) (fun b _ h=>⟨h.1,h.2.2⟩) ⟨.inr BZ.out.size,fun e=>by have:=(CA.out _ e).2;omega⟩)
     have Eh:=ab ((Dh.out.zone (Y:=fun b=>Z b\/w.heap.size<=b) (fun b _ h=>h.1)).below BF);have C8:=ab (BZ.out.trans (BF.mono BZ.out.size));clear BF;obtain ⟨av,cv,Ez⟩:=Dv.out.len;subst Ez
     go_wp2_with (at_builtin;refine ax (E:=lineE) (Z:=fun b=>Z b\/w.heap.size<=b) rfl (.tmp 99) (.tmp 101) 22 rfl (.agg #[.slice none 0 0,.bool false]) 32 Tryz.underlying22 bS rfl (by decide) rfl rfl Eh.out HX.out (by rw [Ch.out];simp only [List.length_singleton];omega) (by rw [Ch.out];simp only [List.length_singleton];omega) C8.out.size ?_)
     intro v9 w9 Cf Cm _ _;rw [<-Co.out] at Cf;have H2:=ab Cf;have H3:=ab (C8.out.trans Cm);clear Cf Cm q0 q1;go_wp2
     go_roundw
     case rel=>exact ⟨i+1,by omega,by go_num,H2.out,H3.out⟩
     case measure=>simp [intOf] <;> omega
    ·obtain ⟨lv,hb0,hz0,c0,c1,hh⟩:=HC.out i hlt;have Cw:=I8.out i hlt;obtain ⟨⟨X,wb⟩,hX⟩ : ∃ y,y=Ls.getD i zl:=⟨_,rfl⟩;rw [<-hX] at c1 hh Cw;simp only at c1 hh Cw;have Fe:=ab hX;obtain ⟨a1,x1,rfl⟩:=hh.len;obtain ⟨m,hm⟩:=ae (X.length);rw [<-hm] at c0 Cw;have HM:=ab hm;have D4:=ab (show ∀ w9,Below w.heap.size w w9->w9.cell? ⟨b0,off0+i * 2,none⟩=some (.slice a1 m x1) from fun w9 h=>(h.cell (p:=⟨b0,off0+i * 2,none⟩) hb0).trans c0);have c0:=D4.out wr Bf.out;have c1:=(Bf.out.cell (p:=⟨b0,off0+i * 2+1,none⟩) hb0).trans c1;have BH:=ab (show ∀ b,ov.ownBlock=some b->w.heap.size<=b/\b<wr.heap.size from hown.lt);obtain ⟨gb,hgb⟩:=ae (wr.heap.size);rw [<-hgb] at BH;obtain ⟨W1,hW1⟩:=ae (wr.alloc (.cells #[.slice a1 m x1,.bool wb] 104));have hb1:Below wr.heap.size wr W1:=by rw [hW1];exact AU _ _
     have Cg:=ab (show OwnE lineE (fun b=>(Z b\/w.heap.size<=b)/\b<gb) W1 w.heap.size 104 ov (bX Ls f t q true i) from (hown.zone (fun b hb hz=>⟨hz,by rw [hgb];exact hb⟩)).below hb1);have DJ:=ab hgb;have BI:=ab (show w.heap.size<=gb from by rw [hgb];exact Bf.out.size);have HH:=ab (show Has W1 gb [.slice a1 m x1,.bool wb] 104 by rw [hW1,hgb];exact Has.new wr _ _);have Bt:=ab (Bf.out.trans (hb1.mono Bf.out.size));have Gk:=ab (show HeldE cellE (fun b=>(Z b\/w.heap.size<=b)/\b≠gb/\ov.ownBlock≠some b) W1 (.slice a1 m x1) X from by rw [hm];exact (hh.below Bt.out).zone (fun b _ hz=>⟨.inl hz,fun e=>by have:=HZ.out b hz;have:=BI.out;omega,fun e=>by have:=HZ.out b hz;have:=(BH.out b e).1;omega⟩));have Co:=ab (cf Ls f t q true i);have Ch:=ab (cE Ls f t q true i);obtain ⟨MP,Du⟩:=ae (bX Ls f t q true i);rw [<-Du] at Cg Co Ch;clear hown hh hX hm hb1 hgb hb0 hz0 Du
     go_upto_region 11 with (fail)
     go_upto_region 12 with (fail)
     rw [<-DJ.out,<-hW1];clear hW1 c0 c1;have t1:decide ((f:Int)<=i)=false:=ai (by omega);have t1n:decide (f<=i)=false:=ai (by omega)
     go_upto_region 19 with (fail)
     obtain ⟨Wm,BG⟩:=ae (W1);obtain ⟨VV,Ct⟩:=ae (Value.slice a1 m x1);obtain ⟨VL,Cs⟩:=ae (X);obtain ⟨wm_,CW⟩:=ae (wb);have BO:=ab (show Has Wm gb [VV,.bool wm_] 104 from by rw [BG,Ct,CW];exact HH.out);have Ev:=ab (show HeldE cellE (fun b=>(Z b\/w.heap.size<=b)/\b≠gb/\ov.ownBlock≠some b) Wm VV VL from by rw [BG,Ct,Cs];exact Gk.out);have EI:=ab (show OwnE lineE (fun b=>(Z b\/w.heap.size<=b)/\b<gb) Wm w.heap.size 104 ov MP from by rw [BG];exact Cg.out);have D8:=ab (show Below w.heap.size w Wm from by rw [BG];exact Bt.out);rw [<-BG];have OFFN:¬ (i+1=f\/(true=false/\i+1=t)):=by rintro (e | ⟨e,e2⟩) <;> first | omega | exact absurd e (by decide)
     have Cq:=ab (show cL Ls f t q true i=(VL,wm_) from by
      unfold cL gO;rw [if_neg (show ¬ (f<=i/\i<t) by omega),<-Fe.out,Cs,if_neg OFFN,CW])
     clear Ct Cs CW BG;clear OFFN;have s1:(((i:Nat):Int)+1 == (f:Int))=false:=by rw [beq_eq_false_iff_ne];omega
     have s1n:(i+1 == f)=false:=by rw [beq_eq_false_iff_ne];omega
     go_upto_region 21 with (fail)
     have BK:=BO;have Dv:=Ev;have Dh:=EI;have BZ:=D8;have q0:=BK.out.cell 0 _ rfl;have q1:=BK.out.cell 1 _ rfl;have CA:=ab Dh.out.lt;have BF:Below Wm.heap.size Wm (Wm.alloc (.cells [VV,.bool wm_].toArray 104)):=AU _ _;have HX:=ab (show HeldE lineE (fun b=>(Z b\/w.heap.size<=b)/\ov.ownBlock≠some b) (Wm.alloc (.cells [VV,.bool wm_].toArray 104)) (.slice (some ⟨Wm.heap.size,0,none⟩) 1 1) [cL Ls f t q true i] from by
      rw [Cq.out];exact aT (Y:=fun b=>(Z b\/w.heap.size<=b)/\b≠gb/\ov.ownBlock≠some b) [VV,.bool wm_] (VL,wm_) (line_rep.2 ⟨_,rfl,Dv.out⟩) (fun b _ h=>⟨h.1,h.2.2⟩) ⟨.inr BZ.out.size,fun e=>by have:=(CA.out _ e).2;omega⟩)
     have Eh:=ab ((Dh.out.zone (Y:=fun b=>Z b\/w.heap.size<=b) (fun b _ h=>h.1)).below BF);have C8:=ab (BZ.out.trans (BF.mono BZ.out.size));clear BF;obtain ⟨av,cv,Ez⟩:=Dv.out.len;subst Ez
     go_wp2_with (at_builtin;refine ax (E:=lineE) (Z:=fun b=>Z b\/w.heap.size<=b) rfl (.tmp 99) (.tmp 101) 22 rfl (.agg #[.slice none 0 0,.bool false]) 32 Tryz.underlying22 bS rfl (by decide) rfl rfl Eh.out HX.out (by rw [Ch.out];simp only [List.length_singleton];omega) (by rw [Ch.out];simp only [List.length_singleton];omega) C8.out.size ?_)
     intro v9 w9 Cf Cm _ _;rw [<-Co.out] at Cf;have H2:=ab Cf;have H3:=ab (C8.out.trans Cm);clear Cf Cm q0 q1;go_wp2
     go_roundw
     case rel=>exact ⟨i+1,by omega,by go_num,H2.out,H3.out⟩
     case measure=>simp [intOf] <;> omega
   ·by_cases hw3:i<t
    ·by_cases hw4:i+q<t
     ·obtain ⟨lv,hb0,hz0,c0,c1,hh⟩:=HC.out i hlt;have Cw:=I8.out i hlt;obtain ⟨⟨X,wb⟩,hX⟩ : ∃ y,y=Ls.getD i zl:=⟨_,rfl⟩;rw [<-hX] at c1 hh Cw;simp only at c1 hh Cw;have Fe:=ab hX;obtain ⟨a1,x1,rfl⟩:=hh.len;obtain ⟨m,hm⟩:=ae (X.length);rw [<-hm] at c0 Cw;have HM:=ab hm;have D4:=ab (show ∀ w9,Below w.heap.size w w9->w9.cell? ⟨b0,off0+i * 2,none⟩=some (.slice a1 m x1) from fun w9 h=>(h.cell (p:=⟨b0,off0+i * 2,none⟩) hb0).trans c0);have c0:=D4.out wr Bf.out;have c1:=(Bf.out.cell (p:=⟨b0,off0+i * 2+1,none⟩) hb0).trans c1;have BH:=ab (show ∀ b,ov.ownBlock=some b->w.heap.size<=b/\b<wr.heap.size from hown.lt);obtain ⟨gb,hgb⟩:=ae (wr.heap.size);rw [<-hgb] at BH;obtain ⟨W1,hW1⟩:=ae (wr.alloc (.cells #[.slice a1 m x1,.bool wb] 104));have hb1:Below wr.heap.size wr W1:=by rw [hW1];exact AU _ _
      have Cg:=ab (show OwnE lineE (fun b=>(Z b\/w.heap.size<=b)/\b<gb) W1 w.heap.size 104 ov (bX Ls f t q true i) from (hown.zone (fun b hb hz=>⟨hz,by rw [hgb];exact hb⟩)).below hb1);have DJ:=ab hgb;have BI:=ab (show w.heap.size<=gb from by rw [hgb];exact Bf.out.size);have HH:=ab (show Has W1 gb [.slice a1 m x1,.bool wb] 104 by rw [hW1,hgb];exact Has.new wr _ _);have Bt:=ab (Bf.out.trans (hb1.mono Bf.out.size));have Gk:=ab (show HeldE cellE (fun b=>(Z b\/w.heap.size<=b)/\b≠gb/\ov.ownBlock≠some b) W1 (.slice a1 m x1) X from by rw [hm];exact (hh.below Bt.out).zone (fun b _ hz=>⟨.inl hz,fun e=>by have:=HZ.out b hz;have:=BI.out;omega,fun e=>by have:=HZ.out b hz;have:=(BH.out b e).1;omega⟩));have Co:=ab (cf Ls f t q true i);have Ch:=ab (cE Ls f t q true i);obtain ⟨MP,Du⟩:=ae (bX Ls f t q true i);rw [<-Du] at Cg Co Ch;clear hown hh hX hm hb1 hgb hb0 hz0 Du
      go_upto_region 11 with (fail)
      go_upto_region 12 with (fail)
      rw [<-DJ.out,<-hW1];clear hW1 c0 c1;have t1:decide ((f:Int)<=i)=true:=ah (by omega);have t1n:decide (f<=i)=true:=ah (by omega);have t2:decide ((i:Int)<t)=true:=ah (by omega);have t2n:decide (i<t)=true:=ah (by omega);obtain ⟨K,hK⟩:=ae (i+q);have Kz:IntKind.i64.wrap ((i:Int)+q)=(K:Int):=by rw [IntKind.wrap_i64];omega
      have hk2:(i:Int)+q=(K:Int):=by omega
      have t3:decide ((f:Int)<=K)=true:=ah (by omega);have t3n:decide (f<=K)=true:=ah (by omega);have t4:decide ((K:Int)<t)=true:=ah (by omega);have t4n:decide (K<t)=true:=ah (by omega);have c0:=D4.out W1 Bt.out
      go_upto_region 16 with (fail)
      have I3:=ab hK;clear hK
      go_wp2_with (at_make;refine wpList_make_full W1 rfl (.tmp 69) (.tmp 69) 102 rfl w.heap.size 147 i0 (.agg #[.int .i64 0,.slice none 0 0]) 2 Tryz.underlying102 HI.out.1 HI.out.2.1 HI.out.2.2.1 .i64 .i64 _ _ m rfl rfl rfl rfl (by rw [HI.out.2.2.2];omega) (by unfold maxLen;omega) Bt.out.size ?_)
      intro w2 hown2 hg2;have hb2:Below W1.heap.size W1 w2:=(Below.refl _ _).grown hg2 (Nat.le_refl _) (by intro k hk;cases hk);obtain ⟨g2,B7⟩:=ae (W1.heap.size);rw [<-B7] at hown2 ⊢;have FU:=ab (show w.heap.size<=g2/\gb<g2 from ⟨by rw [B7];exact Bt.out.size,by rw [B7];exact HH.out.lt⟩);have EJ:=ab (dq hown2);have OB:=ab hb2;have G2:=ab (HH.out.below hb2 HH.out.lt);have BY:=ab (Bt.out.trans (hb2.mono Bt.out.size));have Hm:=ab (Cg.out.below hb2);clear hown2 hg2 hb2 c0 B7
      go_wp2_with (refine bu rfl 104 (.tmp 14) (.tmp 71) rfl gb rfl 104 [.slice a1 m x1,.bool wb] [.slice (some ⟨g2,0,none⟩) m m,.bool false] 2 rfl G2.out cZ rfl rfl (by intro u hu;simp at hu;rcases hu with rfl | rfl <;> rfl) ?_)
      intro w3 Dl hb3;have u3:Upd (fun b=>b=gb) w2 w3:=.ofBut hb3;have IZ:=ab Dl;have CJ:=ab (BY.out.upd u3 BY.out.size (fun b e=>by subst e;exact BI.out));have FQ:=ab (Hm.out.upd u3 (fun b hz=>by rcases hz with hz | hz;exact Nat.ne_of_lt hz.2;exact Nat.ne_of_lt (BH.out b hz).2));have F6:=ab (EJ.out.upd u3 (fun b hz=>by have:=FU.out;omega));clear Dl hb3 u3
      go_upto_region 18 with (fail)
      have hKn:K<n:=by have:=I3.out;have:=KB.out;omega
      obtain ⟨kv,Kl,Ov,d0,d1,Gv⟩:=HC.out K hKn;obtain ⟨⟨XK,wk⟩,IX⟩ : ∃ y,y=Ls.getD K zl:=⟨_,rfl⟩;rw [<-IX] at d1 Gv;simp only at d1 Gv;have KQ:=ab (show (XK,wk)=Ls.getD (i+q) zl from by rw [IX,I3.out]);obtain ⟨ak,xk,rfl⟩:=Gv.len;obtain ⟨mk,J2⟩:=ae (XK.length);rw [<-J2] at d0;have d0:=(CJ.out.cell (p:=⟨b0,off0+K * 2,none⟩) Kl).trans d0;have d1:=(CJ.out.cell (p:=⟨b0,off0+K * 2+1,none⟩) Kl).trans d1;have NR:=ab (show HeldE cellE Z w (.slice ak mk xk) XK from by rw [J2];exact Gv);clear IX J2 Gv Kl Ov
      go_wp2_with (refine bu rfl 104 (.tmp 14) (.tmp 83) rfl gb rfl 104 [.slice (some ⟨g2,0,none⟩) m m,.bool false] [.slice ak mk xk,.bool wk] 2 rfl IZ.out cZ rfl rfl (by intro u hu;simp at hu;rcases hu with rfl | rfl <;> rfl) ?_)
      intro w4 Jq hb4;have u4:Upd (fun b=>b=gb) w3 w4:=.ofBut hb4;have Om:=ab Jq;have Ep:=ab (CJ.out.upd u4 CJ.out.size (fun b e=>by subst e;exact BI.out));have MO:=ab (FQ.out.upd u4 (fun b hz=>by rcases hz with hz | hz;exact Nat.ne_of_lt hz.2;exact Nat.ne_of_lt (BH.out b hz).2));have LC:=ab (NR.out.below Ep.out);clear Jq hb4 u4 d0 d1
      go_upto_region 19 with (fail)
      obtain ⟨Wm,BG⟩:=ae (w4);obtain ⟨VV,Ct⟩:=ae (Value.slice ak mk xk);obtain ⟨VL,Cs⟩:=ae (XK);obtain ⟨wm_,CW⟩:=ae (wk);have BO:=ab (show Has Wm gb [VV,.bool wm_] 104 from by rw [BG,Ct,CW];exact Om.out);have Ev:=ab (show HeldE cellE (fun b=>(Z b\/w.heap.size<=b)/\b≠gb/\ov.ownBlock≠some b) Wm VV VL from by rw [BG,Ct,Cs];exact LC.out.zone (fun b _ hz=>⟨.inl hz,fun e=>by have:=HZ.out b hz;have:=BI.out;omega,fun e=>by have:=HZ.out b hz;have:=(BH.out b e).1;omega⟩));have EI:=ab (show OwnE lineE (fun b=>(Z b\/w.heap.size<=b)/\b<gb) Wm w.heap.size 104 ov MP from by rw [BG];exact MO.out);have D8:=ab (show Below w.heap.size w Wm from by rw [BG];exact Ep.out);rw [<-BG];have OFFN:¬ (i+1=f\/(true=false/\i+1=t)):=by rintro (e | ⟨e,e2⟩) <;> first | omega | exact absurd e (by decide)
      have Cq:=ab (show cL Ls f t q true i=(VL,wm_) from by
       unfold cL gO;rw [if_pos (show f<=i/\i<t from ⟨by omega,by omega⟩),if_pos rfl,if_pos (show i+q<t by omega)];rw [<-KQ.out,Cs,if_neg OFFN,CW])
      clear Ct Cs CW BG;clear OFFN;have s1:(((i:Nat):Int)+1 == (f:Int))=false:=by rw [beq_eq_false_iff_ne];omega
      have s1n:(i+1 == f)=false:=by rw [beq_eq_false_iff_ne];omega
      go_upto_region 21 with (fail)
      have BK:=BO;have Dv:=Ev;have Dh:=EI;have BZ:=D8;have q0:=BK.out.cell 0 _ rfl;have q1:=BK.out.cell 1 _ rfl;have CA:=ab Dh.out.lt;have BF:Below Wm.heap.size Wm (Wm.alloc (.cells [VV,.bool wm_].toArray 104)):=AU _ _;have HX:=ab (show HeldE lineE (fun b=>(Z b\/w.heap.size<=b)/\ov.ownBlock≠some b) (Wm.alloc (.cells [VV,.bool wm_].toArray 104)) (.slice (some ⟨Wm.heap.size,0,none⟩) 1 1) [cL Ls f t q true i] from by
       rw [Cq.out];exact aT (Y:=fun b=>(Z b\/w.heap.size<=b)/\b≠gb/\ov.ownBlock≠some b) [VV,.bool wm_] (VL,wm_) (line_rep.2 ⟨_,rfl,Dv.out⟩) (fun b _ h=>⟨h.1,h.2.2⟩) ⟨.inr BZ.out.size,fun e=>by have:=(CA.out _ e).2;omega⟩)
      have Eh:=ab ((Dh.out.zone (Y:=fun b=>Z b\/w.heap.size<=b) (fun b _ h=>h.1)).below BF);have C8:=ab (BZ.out.trans (BF.mono BZ.out.size));clear BF;obtain ⟨av,cv,Ez⟩:=Dv.out.len;subst Ez
      go_wp2_with (at_builtin;refine ax (E:=lineE) (Z:=fun b=>Z b\/w.heap.size<=b) rfl (.tmp 99) (.tmp 101) 22 rfl (.agg #[.slice none 0 0,.bool false]) 32 Tryz.underlying22 bS rfl (by decide) rfl rfl Eh.out HX.out (by rw [Ch.out];simp only [List.length_singleton];omega) (by rw [Ch.out];simp only [List.length_singleton];omega) C8.out.size ?_)
      intro v9 w9 Cf Cm _ _;rw [<-Co.out] at Cf;have H2:=ab Cf;have H3:=ab (C8.out.trans Cm);clear Cf Cm q0 q1;go_wp2
      go_roundw
      case rel=>exact ⟨i+1,by omega,by go_num,H2.out,H3.out⟩
      case measure=>simp [intOf] <;> omega
     ·obtain ⟨lv,hb0,hz0,c0,c1,hh⟩:=HC.out i hlt;have Cw:=I8.out i hlt;obtain ⟨⟨X,wb⟩,hX⟩ : ∃ y,y=Ls.getD i zl:=⟨_,rfl⟩;rw [<-hX] at c1 hh Cw;simp only at c1 hh Cw;have Fe:=ab hX;obtain ⟨a1,x1,rfl⟩:=hh.len;obtain ⟨m,hm⟩:=ae (X.length);rw [<-hm] at c0 Cw;have HM:=ab hm;have D4:=ab (show ∀ w9,Below w.heap.size w w9->w9.cell? ⟨b0,off0+i * 2,none⟩=some (.slice a1 m x1) from fun w9 h=>(h.cell (p:=⟨b0,off0+i * 2,none⟩) hb0).trans c0);have c0:=D4.out wr Bf.out;have c1:=(Bf.out.cell (p:=⟨b0,off0+i * 2+1,none⟩) hb0).trans c1;have BH:=ab (show ∀ b,ov.ownBlock=some b->w.heap.size<=b/\b<wr.heap.size from hown.lt);obtain ⟨gb,hgb⟩:=ae (wr.heap.size);rw [<-hgb] at BH;obtain ⟨W1,hW1⟩:=ae (wr.alloc (.cells #[.slice a1 m x1,.bool wb] 104));have hb1:Below wr.heap.size wr W1:=by rw [hW1];exact AU _ _
      have Cg:=ab (show OwnE lineE (fun b=>(Z b\/w.heap.size<=b)/\b<gb) W1 w.heap.size 104 ov (bX Ls f t q true i) from (hown.zone (fun b hb hz=>⟨hz,by rw [hgb];exact hb⟩)).below hb1);have DJ:=ab hgb;have BI:=ab (show w.heap.size<=gb from by rw [hgb];exact Bf.out.size);have HH:=ab (show Has W1 gb [.slice a1 m x1,.bool wb] 104 by rw [hW1,hgb];exact Has.new wr _ _);have Bt:=ab (Bf.out.trans (hb1.mono Bf.out.size));have Gk:=ab (show HeldE cellE (fun b=>(Z b\/w.heap.size<=b)/\b≠gb/\ov.ownBlock≠some b) W1 (.slice a1 m x1) X from by rw [hm];exact (hh.below Bt.out).zone (fun b _ hz=>⟨.inl hz,fun e=>by have:=HZ.out b hz;have:=BI.out;omega,fun e=>by have:=HZ.out b hz;have:=(BH.out b e).1;omega⟩));have Co:=ab (cf Ls f t q true i);have Ch:=ab (cE Ls f t q true i);obtain ⟨MP,Du⟩:=ae (bX Ls f t q true i);rw [<-Du] at Cg Co Ch;clear hown hh hX hm hb1 hgb hb0 hz0 Du
      go_upto_region 11 with (fail)
      go_upto_region 12 with (fail)
      rw [<-DJ.out,<-hW1];clear hW1 c0 c1;have t1:decide ((f:Int)<=i)=true:=ah (by omega);have t1n:decide (f<=i)=true:=ah (by omega);have t2:decide ((i:Int)<t)=true:=ah (by omega);have t2n:decide (i<t)=true:=ah (by omega);obtain ⟨K,hK⟩:=ae (i+q);have Kz:IntKind.i64.wrap ((i:Int)+q)=(K:Int):=by rw [IntKind.wrap_i64];omega
      have hk2:(i:Int)+q=(K:Int):=by omega
      have t3:decide ((f:Int)<=K)=true:=ah (by omega);have t3n:decide (f<=K)=true:=ah (by omega);have t4:decide ((K:Int)<t)=false:=ai (by omega);have t4n:decide (K<t)=false:=ai (by omega);have c0:=D4.out W1 Bt.out
      go_upto_region 16 with (fail)
      have I3:=ab hK;clear hK
      go_wp2_with (at_make;refine wpList_make_full W1 rfl (.tmp 69) (.tmp 69) 102 rfl w.heap.size 147 i0 (.agg #[.int .i64 0,.slice none 0 0]) 2 Tryz.underlying102 HI.out.1 HI.out.2.1 HI.out.2.2.1 .i64 .i64 _ _ m rfl rfl rfl rfl (by rw [HI.out.2.2.2];omega) (by unfold maxLen;omega) Bt.out.size ?_)
      intro w2 hown2 hg2;have hb2:Below W1.heap.size W1 w2:=(Below.refl _ _).grown hg2 (Nat.le_refl _) (by intro k hk;cases hk);obtain ⟨g2,B7⟩:=ae (W1.heap.size);rw [<-B7] at hown2 ⊢;have FU:=ab (show w.heap.size<=g2/\gb<g2 from ⟨by rw [B7];exact Bt.out.size,by rw [B7];exact HH.out.lt⟩);have EJ:=ab (dq hown2);have OB:=ab hb2;have G2:=ab (HH.out.below hb2 HH.out.lt);have BY:=ab (Bt.out.trans (hb2.mono Bt.out.size));have Hm:=ab (Cg.out.below hb2);clear hown2 hg2 hb2 c0 B7
      go_wp2_with (refine bu rfl 104 (.tmp 14) (.tmp 71) rfl gb rfl 104 [.slice a1 m x1,.bool wb] [.slice (some ⟨g2,0,none⟩) m m,.bool false] 2 rfl G2.out cZ rfl rfl (by intro u hu;simp at hu;rcases hu with rfl | rfl <;> rfl) ?_)
      intro w3 Dl hb3;have u3:Upd (fun b=>b=gb) w2 w3:=.ofBut hb3;have IZ:=ab Dl;have CJ:=ab (BY.out.upd u3 BY.out.size (fun b e=>by subst e;exact BI.out));have FQ:=ab (Hm.out.upd u3 (fun b hz=>by rcases hz with hz | hz;exact Nat.ne_of_lt hz.2;exact Nat.ne_of_lt (BH.out b hz).2));have F6:=ab (EJ.out.upd u3 (fun b hz=>by have:=FU.out;omega));clear Dl hb3 u3
      go_upto_region 19 with (fail)
      obtain ⟨Wm,BG⟩:=ae (w3);obtain ⟨VV,Ct⟩:=ae (Value.slice (some ⟨g2,0,none⟩) m m);obtain ⟨VL,Cs⟩:=ae (List.replicate m zc);obtain ⟨wm_,CW⟩:=ae (false);have BO:=ab (show Has Wm gb [VV,.bool wm_] 104 from by rw [BG,Ct,CW];exact IZ.out);have Ev:=ab (show HeldE cellE (fun b=>(Z b\/w.heap.size<=b)/\b≠gb/\ov.ownBlock≠some b) Wm VV VL from by rw [BG,Ct,Cs];exact F6.out.zone (fun b _ hz=>by have:=FU.out;subst hz;exact ⟨.inr this.1,by omega,fun e=>by have:=(BH.out _ e).2;omega⟩));have EI:=ab (show OwnE lineE (fun b=>(Z b\/w.heap.size<=b)/\b<gb) Wm w.heap.size 104 ov MP from by rw [BG];exact FQ.out);have D8:=ab (show Below w.heap.size w Wm from by rw [BG];exact CJ.out);rw [<-BG];have OFFN:¬ (i+1=f\/(true=false/\i+1=t)):=by rintro (e | ⟨e,e2⟩) <;> first | omega | exact absurd e (by decide)
      have Cq:=ab (show cL Ls f t q true i=(VL,wm_) from by
       unfold cL gO;rw [if_pos (show f<=i/\i<t from ⟨by omega,by omega⟩),if_pos rfl,if_neg (show ¬ i+q<t by omega)];rw [<-Fe.out,Cs,if_neg OFFN,CW,HM.out])
      clear Ct Cs CW BG;clear OFFN;have s1:(((i:Nat):Int)+1 == (f:Int))=false:=by rw [beq_eq_false_iff_ne];omega
      have s1n:(i+1 == f)=false:=by rw [beq_eq_false_iff_ne];omega
      go_upto_region 21 with (fail)
      have BK:=BO;have Dv:=Ev;have Dh:=EI;have BZ:=D8;have q0:=BK.out.cell 0 _ rfl;have q1:=BK.out.cell 1 _ rfl;have CA:=ab Dh.out.lt;have BF:Below Wm.heap.size Wm (Wm.alloc (.cells [VV,.bool wm_].toArray 104)):=AU _ _;have HX:=ab (show HeldE lineE (fun b=>(Z b\/w.heap.size<=b)/\ov.ownBlock≠some b) (Wm.alloc (.cells [VV,.bool wm_].toArray 104)) (.slice (some ⟨Wm.heap.size,0,none⟩) 1 1) [cL Ls f t q true i] from by
       rw [Cq.out];exact aT (Y:=fun b=>(Z b\/w.heap.size<=b)/\b≠gb/\ov.ownBlock≠some b) [VV,.bool wm_] (VL,wm_) (line_rep.2 ⟨_,rfl,Dv.out⟩) (fun b _ h=>⟨h.1,h.2.2⟩) ⟨.inr BZ.out.size,fun e=>by have:=(CA.out _ e).2;omega⟩)
      have Eh:=ab ((Dh.out.zone (Y:=fun b=>Z b\/w.heap.size<=b) (fun b _ h=>h.1)).below BF);have C8:=ab (BZ.out.trans (BF.mono BZ.out.size));clear BF;obtain ⟨av,cv,Ez⟩:=Dv.out.len;subst Ez
      go_wp2_with (at_builtin;refine ax (E:=lineE) (Z:=fun b=>Z b\/w.heap.size<=b) rfl (.tmp 99) (.tmp 101) 22 rfl (.agg #[.slice none 0 0,.bool false]) 32 Tryz.underlying22 bS rfl (by decide) rfl rfl Eh.out HX.out (by rw [Ch.out];simp only [List.length_singleton];omega) (by rw [Ch.out];simp only [List.length_singleton];omega) C8.out.size ?_)
      intro v9 w9 Cf Cm _ _;rw [<-Co.out] at Cf;have H2:=ab Cf;have H3:=ab (C8.out.trans Cm);clear Cf Cm q0 q1;go_wp2
      go_roundw
      case rel=>exact ⟨i+1,by omega,by go_num,H2.out,H3.out⟩
      case measure=>simp [intOf] <;> omega
    ·obtain ⟨lv,hb0,hz0,c0,c1,hh⟩:=HC.out i hlt;have Cw:=I8.out i hlt;obtain ⟨⟨X,wb⟩,hX⟩ : ∃ y,y=Ls.getD i zl:=⟨_,rfl⟩;rw [<-hX] at c1 hh Cw;simp only at c1 hh Cw;have Fe:=ab hX;obtain ⟨a1,x1,rfl⟩:=hh.len;obtain ⟨m,hm⟩:=ae (X.length);rw [<-hm] at c0 Cw;have HM:=ab hm;have D4:=ab (show ∀ w9,Below w.heap.size w w9->w9.cell? ⟨b0,off0+i * 2,none⟩=some (.slice a1 m x1) from fun w9 h=>(h.cell (p:=⟨b0,off0+i * 2,none⟩) hb0).trans c0);have c0:=D4.out wr Bf.out;have c1:=(Bf.out.cell (p:=⟨b0,off0+i * 2+1,none⟩) hb0).trans c1;have BH:=ab (show ∀ b,ov.ownBlock=some b->w.heap.size<=b/\b<wr.heap.size from hown.lt);obtain ⟨gb,hgb⟩:=ae (wr.heap.size);rw [<-hgb] at BH;obtain ⟨W1,hW1⟩:=ae (wr.alloc (.cells #[.slice a1 m x1,.bool wb] 104));have hb1:Below wr.heap.size wr W1:=by rw [hW1];exact AU _ _
     have Cg:=ab (show OwnE lineE (fun b=>(Z b\/w.heap.size<=b)/\b<gb) W1 w.heap.size 104 ov (bX Ls f t q true i) from (hown.zone (fun b hb hz=>⟨hz,by rw [hgb];exact hb⟩)).below hb1);have DJ:=ab hgb;have BI:=ab (show w.heap.size<=gb from by rw [hgb];exact Bf.out.size);have HH:=ab (show Has W1 gb [.slice a1 m x1,.bool wb] 104 by rw [hW1,hgb];exact Has.new wr _ _);have Bt:=ab (Bf.out.trans (hb1.mono Bf.out.size));have Gk:=ab (show HeldE cellE (fun b=>(Z b\/w.heap.size<=b)/\b≠gb/\ov.ownBlock≠some b) W1 (.slice a1 m x1) X from by rw [hm];exact (hh.below Bt.out).zone (fun b _ hz=>⟨.inl hz,fun e=>by have:=HZ.out b hz;have:=BI.out;omega,fun e=>by have:=HZ.out b hz;have:=(BH.out b e).1;omega⟩));have Co:=ab (cf Ls f t q true i);have Ch:=ab (cE Ls f t q true i);obtain ⟨MP,Du⟩:=ae (bX Ls f t q true i);rw [<-Du] at Cg Co Ch;clear hown hh hX hm hb1 hgb hb0 hz0 Du
     go_upto_region 11 with (fail)
     go_upto_region 12 with (fail)
     rw [<-DJ.out,<-hW1];clear hW1 c0 c1;have t1:decide ((f:Int)<=i)=true:=ah (by omega);have t1n:decide (f<=i)=true:=ah (by omega);have t2:decide ((i:Int)<t)=false:=ai (by omega);have t2n:decide (i<t)=false:=ai (by omega)
     go_upto_region 19 with (fail)
     obtain ⟨Wm,BG⟩:=ae (W1);obtain ⟨VV,Ct⟩:=ae (Value.slice a1 m x1);obtain ⟨VL,Cs⟩:=ae (X);obtain ⟨wm_,CW⟩:=ae (wb);have BO:=ab (show Has Wm gb [VV,.bool wm_] 104 from by rw [BG,Ct,CW];exact HH.out);have Ev:=ab (show HeldE cellE (fun b=>(Z b\/w.heap.size<=b)/\b≠gb/\ov.ownBlock≠some b) Wm VV VL from by rw [BG,Ct,Cs];exact Gk.out);have EI:=ab (show OwnE lineE (fun b=>(Z b\/w.heap.size<=b)/\b<gb) Wm w.heap.size 104 ov MP from by rw [BG];exact Cg.out);have D8:=ab (show Below w.heap.size w Wm from by rw [BG];exact Bt.out);rw [<-BG];have OFFN:¬ (i+1=f\/(true=false/\i+1=t)):=by rintro (e | ⟨e,e2⟩) <;> first | omega | exact absurd e (by decide)
     have Cq:=ab (show cL Ls f t q true i=(VL,wm_) from by
      unfold cL gO;rw [if_neg (show ¬ (f<=i/\i<t) by omega),<-Fe.out,Cs,if_neg OFFN,CW])
     clear Ct Cs CW BG;clear OFFN;have s1:(((i:Nat):Int)+1 == (f:Int))=false:=by rw [beq_eq_false_iff_ne];omega
     have s1n:(i+1 == f)=false:=by rw [beq_eq_false_iff_ne];omega
     go_upto_region 21 with (fail)
     have BK:=BO;have Dv:=Ev;have Dh:=EI;have BZ:=D8;have q0:=BK.out.cell 0 _ rfl;have q1:=BK.out.cell 1 _ rfl;have CA:=ab Dh.out.lt;have BF:Below Wm.heap.size Wm (Wm.alloc (.cells [VV,.bool wm_].toArray 104)):=AU _ _;have HX:=ab (show HeldE lineE (fun b=>(Z b\/w.heap.size<=b)/\ov.ownBlock≠some b) (Wm.alloc (.cells [VV,.bool wm_].toArray 104)) (.slice (some ⟨Wm.heap.size,0,none⟩) 1 1) [cL Ls f t q true i] from by
      rw [Cq.out];exact aT (Y:=fun b=>(Z b\/w.heap.size<=b)/\b≠gb/\ov.ownBlock≠some b) [VV,.bool wm_] (VL,wm_) (line_rep.2 ⟨_,rfl,Dv.out⟩) (fun b _ h=>⟨h.1,h.2.2⟩) ⟨.inr BZ.out.size,fun e=>by have:=(CA.out _ e).2;omega⟩)
     have Eh:=ab ((Dh.out.zone (Y:=fun b=>Z b\/w.heap.size<=b) (fun b _ h=>h.1)).below BF);have C8:=ab (BZ.out.trans (BF.mono BZ.out.size));clear BF;obtain ⟨av,cv,Ez⟩:=Dv.out.len;subst Ez
     go_wp2_with (at_builtin;refine ax (E:=lineE) (Z:=fun b=>Z b\/w.heap.size<=b) rfl (.tmp 99) (.tmp 101) 22 rfl (.agg #[.slice none 0 0,.bool false]) 32 Tryz.underlying22 bS rfl (by decide) rfl rfl Eh.out HX.out (by rw [Ch.out];simp only [List.length_singleton];omega) (by rw [Ch.out];simp only [List.length_singleton];omega) C8.out.size ?_)
     intro v9 w9 Cf Cm _ _;rw [<-Co.out] at Cf;have H2:=ab Cf;have H3:=ab (C8.out.trans Cm);clear Cf Cm q0 q1;go_wp2
     go_roundw
     case rel=>exact ⟨i+1,by omega,by go_num,H2.out,H3.out⟩
     case measure=>simp [intOf] <;> omega
  ·obtain rfl:i=n:=by omega
   have hF:=BM.out;rw [hF] at hown;have HO:=ab hown;clear hown;go_wp2;go_ret;exact ⟨_,rfl,HO.out,Bf.out⟩
end Go.Proofs.YtoeggiplcaegoaaGreatDoor
