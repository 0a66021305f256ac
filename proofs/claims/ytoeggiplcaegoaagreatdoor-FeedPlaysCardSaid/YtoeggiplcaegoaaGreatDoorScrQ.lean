import Derived.Test.YtoeggiplcaegoaaGreatDoorZ0
import Derived.Test.YtoeggiplcaegoaaGreatDoorScrP
set_option maxRecDepth 100000
set_option linter.unusedVariables false
set_option linter.unusedSimpArgs false
set_option maxHeartbeats 16000000
namespace Go.Proofs.YtoeggiplcaegoaaGreatDoor
open Go.RowKit Go.ChangeShapes Go.WideShapes
theorem qV(v:Value)(Z:an)(Ls:List Ln)(a b k:Int)(f t q:Nat)(w:World)(hv:HeldE lineE Z w v Ls)(hZ:∀ b,Z b->b<w.heap.size)(hl:Ls.length<=1000)(Ka:∀ i,i<Ls.length->(Ls.getD i zl).1.length<=1024)(hf:bE Ls.length a=f)(ht:bE Ls.length b=t)(hk:cy Ls.length a b k=(q:Int))(hq:0<q):Calls Tryz.prog 170 #[v,.int .i64 a,.int .i64 b,.int .i64 k,.bool false] w (fk lineE (fun b=>Z b\/w.heap.size<=b) 104 w (gD Ls f t q false)):=by
 obtain ⟨n,hn⟩:=ae (Ls.length);have EN:t<=n:=by rw [hn,<-ht];exact fi _ _
 rw [<-hn] at hl hf ht hk Ka;have h1:max 0 (min a (n:Int))=(f:Int):=by rw [<-hf];unfold bE;omega
 have h2:max 0 (min b (n:Int))=(t:Int):=by rw [<-ht];unfold bE;omega
 unfold cy at hk;rw [hf,ht] at hk;have IV:f<t:=by omega
 have Np:q<=t - f:=by omega
 obtain ⟨ao,ca,rfl⟩:=hv.len;obtain ⟨_,_,hc⟩:=fj hv;obtain ⟨b0,off0,hao⟩ : ∃ b0 off0,ao=some ⟨b0,off0,none⟩:=by
  obtain ⟨b0,off0,_,h,_⟩:=hc 0 (by omega);exact ⟨b0,off0,h⟩
 subst hao;have HC:=ab (show ∀ i,i<n->∃ v,b0<w.heap.size/\Z b0/\w.cell? ⟨b0,off0+i * 2,none⟩=some v/\w.cell? ⟨b0,off0+i * 2+1,none⟩=some (.bool (Ls.getD i zl).2)/\HeldE cellE Z w v (Ls.getD i zl).1 from fun i hi=>by
  obtain ⟨b,off,v,e,r⟩:=hc i (by rw [<-hn];exact hi)
  cases e
  exact ⟨v,r⟩)
 have IW:=ab Ka;have HZ:=ab hZ;have I6:=ab EN;have AN:=ab (show bX Ls f t q false n=gD Ls f t q false from by unfold bX gD;rw [hn]);rw [<-hn];obtain ⟨i0,hi,hz0,hz1,hz2⟩:=info_parts cD;have HI:=ab (And.intro hi (And.intro hz0 (And.intro hz1 hz2)));have d1:decide ((t:Int)<=f)=false:=ai (by omega);have d1n:decide (t<=f)=false:=ai (by omega);have d2:decide (k<1)=false:=ai (by omega);have d3:IntKind.i64.wrap ((t:Int) - f)=(t:Int) - f:=by rw [IntKind.wrap_i64];omega
 clear hi hz0 hz1 hz2 hn hc hv Ka hZ hf ht
 go_enter Tryz.func170,Tryz.ntmps170
 go_wp2
 try rw [hk]
 go_loopw [12,13] (fun o i wr=>∃ k:Nat,k<=n/\i=.int .i64 k/\OwnE lineE (fun b=>Z b\/w.heap.size<=b) wr w.heap.size 104 o (bX Ls f t q false k)/\Below w.heap.size w wr) (fun _ i _=>n - (intOf i).toNat)
 case atStart=>exact ⟨0,Nat.zero_le _,rfl,OwnE.nil _ _ _ _ _,Below.refl _ _⟩
 case round =>
  obtain ⟨i,hi,rfl,hown,zN⟩:=hrel;have z5:=ab zN;obtain ⟨ov,Jx⟩:=ae (u12);rw [<-Jx] at hown ⊢;clear Jx zN d1 d1n d2 d3 h1 h2 hk
  by_cases hlt:i<n
  ·by_cases Cd:i<f
   ·by_cases hw2:i+1=f
    ·obtain ⟨lv,hb0,hz0,c0,c1,hh⟩:=HC.out i hlt;have Bl:=IW.out i hlt;obtain ⟨⟨X,wb⟩,hX⟩ : ∃ y,y=Ls.getD i zl:=⟨_,rfl⟩;rw [<-hX] at c1 hh Bl;simp only at c1 hh Bl;have EK:=ab hX;obtain ⟨a1,x1,rfl⟩:=hh.len;obtain ⟨m,hm⟩:=ae (X.length);rw [<-hm] at c0 Bl;have HM:=ab hm;have Dl:=ab (show ∀ w9,Below w.heap.size w w9->w9.cell? ⟨b0,off0+i * 2,none⟩=some (.slice a1 m x1) from fun w9 h=>(h.cell (p:=⟨b0,off0+i * 2,none⟩) hb0).trans c0);have c0:=Dl.out wr z5.out;have c1:=(z5.out.cell (p:=⟨b0,off0+i * 2+1,none⟩) hb0).trans c1;have AD:=ab (show ∀ b,ov.ownBlock=some b->w.heap.size<=b/\b<wr.heap.size from hown.lt);obtain ⟨gb,hgb⟩:=ae (wr.heap.size);rw [<-hgb] at AD;obtain ⟨W1,hW1⟩:=ae (wr.alloc (.cells #[.slice a1 m x1,.bool wb] 104));have hb1:Below wr.heap.size wr W1:=by rw [hW1];exact zI _ _
     have A4:=ab (show OwnE lineE (fun b=>(Z b\/w.heap.size<=b)/\b<gb) W1 w.heap.size 104 ov (bX Ls f t q false i) from (hown.zone (fun b hb hz=>⟨hz,by rw [hgb];exact hb⟩)).below hb1);have CI:=ab hgb;have AB:=ab (show w.heap.size<=gb from by rw [hgb];exact z5.out.size);have HH:=ab (show Has W1 gb [.slice a1 m x1,.bool wb] 104 by rw [hW1,hgb];exact Has.new wr _ _);have Ah:=ab (z5.out.trans (hb1.mono z5.out.size));have F9:=ab (show HeldE cellE (fun b=>(Z b\/w.heap.size<=b)/\b≠gb/\ov.ownBlock≠some b) W1 (.slice a1 m x1) X from by rw [hm];exact (hh.below Ah.out).zone (fun b _ hz=>⟨.inl hz,fun e=>by have:=HZ.out b hz;have:=AB.out;omega,fun e=>by have:=HZ.out b hz;have:=(AD.out b e).1;omega⟩));have Bh:=ab (ce Ls f t q false i);have AL:=ab (cC Ls f t q false i);obtain ⟨MP,CD⟩:=ae (bX Ls f t q false i);rw [<-CD] at A4 Bh AL;clear hown hh hX hm hb1 hgb hb0 hz0 CD
     go_upto_region 11 with (fail)
     go_upto_region 12 with (fail)
     rw [<-CI.out,<-hW1];clear hW1 c0 c1;have t1:decide ((f:Int)<=i)=false:=ai (by omega);have t1n:decide (f<=i)=false:=ai (by omega)
     go_upto_region 19 with (fail)
     obtain ⟨Wm,Ay⟩:=ae (W1);obtain ⟨VV,Bo⟩:=ae (Value.slice a1 m x1);obtain ⟨VL,Bs⟩:=ae (X);obtain ⟨wm_,BK⟩:=ae (wb);have AQ:=ab (show Has Wm gb [VV,.bool wm_] 104 from by rw [Ay,Bo,BK];exact HH.out);have En:=ab (show HeldE cellE (fun b=>(Z b\/w.heap.size<=b)/\b≠gb/\ov.ownBlock≠some b) Wm VV VL from by rw [Ay,Bo,Bs];exact F9.out);have D5:=ab (show OwnE lineE (fun b=>(Z b\/w.heap.size<=b)/\b<gb) Wm w.heap.size 104 ov MP from by rw [Ay];exact A4.out);have Dv:=ab (show Below w.heap.size w Wm from by rw [Ay];exact Ah.out);rw [<-Ay];have OFFP:i+1=f\/(false=false/\i+1=t):=.inl (by omega);have BA:=ab (show cK Ls f t q false i=(VL,false) from by
      unfold cK gF;rw [if_neg (show ¬ (f<=i/\i<t) by omega),<-EK.out,Bs,if_pos OFFP])
     clear Bo Bs BK Ay;clear OFFP;have s1:(((i:Nat):Int)+1 == (f:Int))=true:=by rw [beq_iff_eq];omega
     have s1n:(i+1 == f)=true:=by rw [beq_iff_eq];omega
     go_upto_region 20 with (fail)
     have q1:=AQ.out.cell 1 _ rfl;have q1f:=AQ.out.free 1
     go_upto_region 21 with (fail)
     clear q1 q1f;obtain ⟨W5,AK⟩:=ae (Wm.setCell ⟨gb,1,none⟩ (.bool false));have AI:=ab (show Has W5 gb [VV,.bool false] 104 from by rw [AK];exact AQ.out.set 1 (.bool false));have u5:Upd (fun b=>b=gb) Wm W5:=by rw [AK];exact (Upd.refl (fun b=>b=gb) Wm).setCell (p:=⟨gb,1,none⟩) (.inl rfl) (.bool false)
     have CA:=ab (En.out.upd u5 (fun b hz=>hz.2.1));have CE:=ab (D5.out.upd u5 (fun b hz=>by rcases hz with hz | hz;exact Nat.ne_of_lt hz.2;exact Nat.ne_of_lt (AD.out b hz).2));have Bf:=ab (Dv.out.upd u5 Dv.out.size (fun b e=>by subst e;exact AB.out));rw [<-AK];clear AK u5;have q0:=AI.out.cell 0 _ rfl;have q1:=AI.out.cell 1 _ rfl;have Bk:=ab CE.out.lt;have AG:Below W5.heap.size W5 (W5.alloc (.cells [VV,.bool false].toArray 104)):=zI _ _;have HX:=ab (show HeldE lineE (fun b=>(Z b\/w.heap.size<=b)/\ov.ownBlock≠some b) (W5.alloc (.cells [VV,.bool false].toArray 104)) (.slice (some ⟨W5.heap.size,0,none⟩) 1 1) [cK Ls f t q false i] from by
      rw [BA.out];exact aO (Y:=fun b=>(Z b\/w.heap.size<=b)/\b≠gb/\ov.ownBlock≠some b) [VV,.bool false] (VL,false) (line_rep.2 ⟨_,rfl,CA.out⟩) (fun b _ h=>⟨h.1,h.2.2⟩) ⟨.inr Bf.out.size,fun e=>by have:=(Bk.out _ e).2;omega⟩)
     have DR:=ab ((CE.out.zone (Y:=fun b=>Z b\/w.heap.size<=b) (fun b _ h=>h.1)).below AG);have B0:=ab (Bf.out.trans (AG.mono Bf.out.size));clear AG;obtain ⟨av,cv,Eb⟩:=CA.out.len;subst Eb
     go_wp2_with (at_builtin;refine aw (E:=lineE) (Z:=fun b=>Z b\/w.heap.size<=b) rfl (.tmp 99) (.tmp 101) 22 rfl (.agg #[.slice none 0 0,.bool false]) 32 Tryz.underlying22 bS rfl (by decide) rfl rfl DR.out HX.out (by rw [AL.out];simp only [List.length_singleton];omega) (by rw [AL.out];simp only [List.length_singleton];omega) B0.out.size ?_)
     intro v9 w9 A9 Bd _ _;rw [<-Bh.out] at A9;have H2:=ab A9;have H3:=ab (B0.out.trans Bd);clear A9 Bd q0 q1;go_wp2
     go_roundw
     case rel=>exact ⟨i+1,by omega,by go_num,H2.out,H3.out⟩
     case measure=>simp [intOf] <;> omega
    ·obtain ⟨lv,hb0,hz0,c0,c1,hh⟩:=HC.out i hlt;have Bl:=IW.out i hlt;obtain ⟨⟨X,wb⟩,hX⟩ : ∃ y,y=Ls.getD i zl:=⟨_,rfl⟩;rw [<-hX] at c1 hh Bl;simp only at c1 hh Bl;have EK:=ab hX;obtain ⟨a1,x1,rfl⟩:=hh.len;obtain ⟨m,hm⟩:=ae (X.length);rw [<-hm] at c0 Bl;have HM:=ab hm;have Dl:=ab (show ∀ w9,Below w.heap.size w w9->w9.cell? ⟨b0,off0+i * 2,none⟩=some (.slice a1 m x1) from fun w9 h=>(h.cell (p:=⟨b0,off0+i * 2,none⟩) hb0).trans c0);have c0:=Dl.out wr z5.out;have c1:=(z5.out.cell (p:=⟨b0,off0+i * 2+1,none⟩) hb0).trans c1;have AD:=ab (show ∀ b,ov.ownBlock=some b->w.heap.size<=b/\b<wr.heap.size from hown.lt);obtain ⟨gb,hgb⟩:=ae (wr.heap.size);rw [<-hgb] at AD;obtain ⟨W1,hW1⟩:=ae (wr.alloc (.cells #[.slice a1 m x1,.bool wb] 104));have hb1:Below wr.heap.size wr W1:=by rw [hW1];exact zI _ _
     have A4:=ab (show OwnE lineE (fun b=>(Z b\/w.heap.size<=b)/\b<gb) W1 w.heap.size 104 ov (bX Ls f t q false i) from (hown.zone (fun b hb hz=>⟨hz,by rw [hgb];exact hb⟩)).below hb1);have CI:=ab hgb;have AB:=ab (show w.heap.size<=gb from by rw [hgb];exact z5.out.size);have HH:=ab (show Has W1 gb [.slice a1 m x1,.bool wb] 104 by rw [hW1,hgb];exact Has.new wr _ _);have Ah:=ab (z5.out.trans (hb1.mono z5.out.size));have F9:=ab (show HeldE cellE (fun b=>(Z b\/w.heap.size<=b)/\b≠gb/\ov.ownBlock≠some b) W1 (.slice a1 m x1) X from by rw [hm];exact (hh.below Ah.out).zone (fun b _ hz=>⟨.inl hz,fun e=>by have:=HZ.out b hz;have:=AB.out;omega,fun e=>by have:=HZ.out b hz;have:=(AD.out b e).1;omega⟩));have Bh:=ab (ce Ls f t q false i);have AL:=ab (cC Ls f t q false i);obtain ⟨MP,CD⟩:=ae (bX Ls f t q false i);rw [<-CD] at A4 Bh AL;clear hown hh hX hm hb1 hgb hb0 hz0 CD
     go_upto_region 11 with (fail)
     go_upto_region 12 with (fail)
     rw [<-CI.out,<-hW1];clear hW1 c0 c1;have t1:decide ((f:Int)<=i)=false:=ai (by omega);have t1n:decide (f<=i)=false:=ai (by omega)
     go_upto_region 19 with (fail)
     obtain ⟨Wm,Ay⟩:=ae (W1);obtain ⟨VV,Bo⟩:=ae (Value.slice a1 m x1);obtain ⟨VL,Bs⟩:=ae (X);obtain ⟨wm_,BK⟩:=ae (wb);have AQ:=ab (show Has Wm gb [VV,.bool wm_] 104 from by rw [Ay,Bo,BK];exact HH.out);have En:=ab (show HeldE cellE (fun b=>(Z b\/w.heap.size<=b)/\b≠gb/\ov.ownBlock≠some b) Wm VV VL from by rw [Ay,Bo,Bs];exact F9.out);have D5:=ab (show OwnE lineE (fun b=>(Z b\/w.heap.size<=b)/\b<gb) Wm w.heap.size 104 ov MP from by rw [Ay];exact A4.out);have Dv:=ab (show Below w.heap.size w Wm from by rw [Ay];exact Ah.out);rw [<-Ay];have OFFN:¬ (i+1=f\/(false=false/\i+1=t)):=by rintro (e | ⟨e,e2⟩) <;> first | omega | exact absurd e (by decide)
     have BA:=ab (show cK Ls f t q false i=(VL,wm_) from by
      unfold cK gF;rw [if_neg (show ¬ (f<=i/\i<t) by omega),<-EK.out,Bs,if_neg OFFN,BK])
     clear Bo Bs BK Ay;clear OFFN;have s1:(((i:Nat):Int)+1 == (f:Int))=false:=by rw [beq_eq_false_iff_ne];omega
     have s1n:(i+1 == f)=false:=by rw [beq_eq_false_iff_ne];omega
     have s2:(((i:Nat):Int)+1 == (t:Int))=false:=by rw [beq_eq_false_iff_ne];omega
     have s2n:(i+1 == t)=false:=by rw [beq_eq_false_iff_ne];omega
     go_upto_region 21 with (fail)
     have AI:=AQ;have CA:=En;have CE:=D5;have Bf:=Dv;have q0:=AI.out.cell 0 _ rfl;have q1:=AI.out.cell 1 _ rfl;have Bk:=ab CE.out.lt;have AG:Below Wm.heap.size Wm (Wm.alloc (.cells [VV,.bool wm_].toArray 104)):=zI _ _;have HX:=ab (show HeldE lineE (fun b=>(Z b\/w.heap.size<=b)/\ov.ownBlock≠some b) (Wm.alloc (.cells [VV,.bool wm_].toArray 104)) (.slice (some ⟨Wm.heap.size,0,none⟩) 1 1) [cK Ls f t q false i] from by
      rw [BA.out];exact aO (Y:=fun b=>(Z b\/w.heap.size<=b)/\b≠gb/\ov.ownBlock≠some b) [VV,.bool wm_] (VL,wm_) (line_rep.2 ⟨_,rfl,CA.out⟩) (fun b _ h=>⟨h.1,h.2.2⟩) ⟨.inr Bf.out.size,fun e=>by have:=(Bk.out _ e).2;omega⟩)
     have DR:=ab ((CE.out.zone (Y:=fun b=>Z b\/w.heap.size<=b) (fun b _ h=>h.1)).below AG);have B0:=ab (Bf.out.trans (AG.mono Bf.out.size));clear AG;obtain ⟨av,cv,Eb⟩:=CA.out.len;subst Eb
     go_wp2_with (at_builtin;refine aw (E:=lineE) (Z:=fun b=>Z b\/w.heap.size<=b) rfl (.tmp 99) (.tmp 101) 22 rfl (.agg #[.slice none 0 0,.bool false]) 32 Tryz.underlying22 bS rfl (by decide) rfl rfl DR.out HX.out (by rw [AL.out];simp only [List.length_singleton];omega) (by rw [AL.out];simp only [List.length_singleton];omega) B0.out.size ?_)
     intro v9 w9 A9 Bd _ _;rw [<-Bh.out] at A9;have H2:=ab A9;have H3:=ab (B0.out.trans Bd);clear A9 Bd q0 q1;go_wp2
     go_roundw
     case rel=>exact ⟨i+1,by omega,by go_num,H2.out,H3.out⟩
     case measure=>simp [intOf] <;> omega
   ·by_cases hw3:i<t
    ·by_cases hw4:f+q<=i
     ·by_cases EH:i+1=t
      ·obtain ⟨lv,hb0,hz0,c0,c1,hh⟩:=HC.out i hlt;have Bl:=IW.out i hlt;obtain ⟨⟨X,wb⟩,hX⟩ : ∃ y,y=Ls.getD i zl:=⟨_,rfl⟩;rw [<-hX] at c1 hh Bl;simp only at c1 hh Bl;have EK:=ab hX;obtain ⟨a1,x1,rfl⟩:=hh.len;obtain ⟨m,hm⟩:=ae (X.length);rw [<-hm] at c0 Bl;have HM:=ab hm;have Dl:=ab (show ∀ w9,Below w.heap.size w w9->w9.cell? ⟨b0,off0+i * 2,none⟩=some (.slice a1 m x1) from fun w9 h=>(h.cell (p:=⟨b0,off0+i * 2,none⟩) hb0).trans c0);have c0:=Dl.out wr z5.out;have c1:=(z5.out.cell (p:=⟨b0,off0+i * 2+1,none⟩) hb0).trans c1;have AD:=ab (show ∀ b,ov.ownBlock=some b->w.heap.size<=b/\b<wr.heap.size from hown.lt);obtain ⟨gb,hgb⟩:=ae (wr.heap.size);rw [<-hgb] at AD;obtain ⟨W1,hW1⟩:=ae (wr.alloc (.cells #[.slice a1 m x1,.bool wb] 104));have hb1:Below wr.heap.size wr W1:=by rw [hW1];exact zI _ _
       have A4:=ab (show OwnE lineE (fun b=>(Z b\/w.heap.size<=b)/\b<gb) W1 w.heap.size 104 ov (bX Ls f t q false i) from (hown.zone (fun b hb hz=>⟨hz,by rw [hgb];exact hb⟩)).below hb1);have CI:=ab hgb;have AB:=ab (show w.heap.size<=gb from by rw [hgb];exact z5.out.size);have HH:=ab (show Has W1 gb [.slice a1 m x1,.bool wb] 104 by rw [hW1,hgb];exact Has.new wr _ _);have Ah:=ab (z5.out.trans (hb1.mono z5.out.size));have F9:=ab (show HeldE cellE (fun b=>(Z b\/w.heap.size<=b)/\b≠gb/\ov.ownBlock≠some b) W1 (.slice a1 m x1) X from by rw [hm];exact (hh.below Ah.out).zone (fun b _ hz=>⟨.inl hz,fun e=>by have:=HZ.out b hz;have:=AB.out;omega,fun e=>by have:=HZ.out b hz;have:=(AD.out b e).1;omega⟩));have Bh:=ab (ce Ls f t q false i);have AL:=ab (cC Ls f t q false i);obtain ⟨MP,CD⟩:=ae (bX Ls f t q false i);rw [<-CD] at A4 Bh AL;clear hown hh hX hm hb1 hgb hb0 hz0 CD
       go_upto_region 11 with (fail)
       go_upto_region 12 with (fail)
       rw [<-CI.out,<-hW1];clear hW1 c0 c1;have t1:decide ((f:Int)<=i)=true:=ah (by omega);have t1n:decide (f<=i)=true:=ah (by omega);have t2:decide ((i:Int)<t)=true:=ah (by omega);have t2n:decide (i<t)=true:=ah (by omega);obtain ⟨K,hK⟩:=ae (i - q);have J2:IntKind.i64.wrap ((i:Int) - q)=(K:Int):=by rw [IntKind.wrap_i64];omega
       have hk2:(i:Int) - q=(K:Int):=by omega
       have t3:decide ((f:Int)<=K)=true:=ah (by omega);have t3n:decide (f<=K)=true:=ah (by omega);have t4:decide ((K:Int)<t)=true:=ah (by omega);have t4n:decide (K<t)=true:=ah (by omega);have c0:=Dl.out W1 Ah.out
       go_upto_region 16 with (fail)
       have IY:=ab hK;clear hK
       go_wp2_with (at_make;refine wpList_make_full W1 rfl (.tmp 69) (.tmp 69) 102 rfl w.heap.size 147 i0 (.agg #[.int .i64 0,.slice none 0 0]) 2 Tryz.underlying102 HI.out.1 HI.out.2.1 HI.out.2.2.1 .i64 .i64 _ _ m rfl rfl rfl rfl (by rw [HI.out.2.2.2];omega) (by unfold maxLen;omega) Ah.out.size ?_)
       intro w2 hown2 hg2;have hb2:Below W1.heap.size W1 w2:=(Below.refl _ _).grown hg2 (Nat.le_refl _) (by intro k hk;cases hk);obtain ⟨g2,AY⟩:=ae (W1.heap.size);rw [<-AY] at hown2 ⊢;have FH:=ab (show w.heap.size<=g2/\gb<g2 from ⟨by rw [AY];exact Ah.out.size,by rw [AY];exact HH.out.lt⟩);have Ec:=ab (dj hown2);have MQ:=ab hb2;have IU:=ab (HH.out.below hb2 HH.out.lt);have AM:=ab (Ah.out.trans (hb2.mono Ah.out.size));have E3:=ab (A4.out.below hb2);clear hown2 hg2 hb2 c0 AY
       go_wp2_with (refine bq rfl 104 (.tmp 14) (.tmp 71) rfl gb rfl 104 [.slice a1 m x1,.bool wb] [.slice (some ⟨g2,0,none⟩) m m,.bool false] 2 rfl IU.out cU rfl rfl (by intro u hu;simp at hu;rcases hu with rfl | rfl <;> rfl) ?_)
       intro w3 Cq hb3;have u3:Upd (fun b=>b=gb) w2 w3:=.ofBut hb3;have Jc:=ab Cq;have BD:=ab (AM.out.upd u3 AM.out.size (fun b e=>by subst e;exact AB.out));have Gk:=ab (E3.out.upd u3 (fun b hz=>by rcases hz with hz | hz;exact Nat.ne_of_lt hz.2;exact Nat.ne_of_lt (AD.out b hz).2));have Gd:=ab (Ec.out.upd u3 (fun b hz=>by have:=FH.out;omega));clear Cq hb3 u3
       go_upto_region 18 with (fail)
       have hKn:K<n:=by have:=IY.out;have:=I6.out;omega
       obtain ⟨kv,J1,Nh,d0,d1,F3⟩:=HC.out K hKn;obtain ⟨⟨XK,wk⟩,II⟩ : ∃ y,y=Ls.getD K zl:=⟨_,rfl⟩;rw [<-II] at d1 F3;simp only at d1 F3;have Ky:=ab (show (XK,wk)=Ls.getD (i - q) zl from by rw [II,IY.out]);obtain ⟨ak,xk,rfl⟩:=F3.len;obtain ⟨mk,JE⟩:=ae (XK.length);rw [<-JE] at d0;have d0:=(BD.out.cell (p:=⟨b0,off0+K * 2,none⟩) J1).trans d0;have d1:=(BD.out.cell (p:=⟨b0,off0+K * 2+1,none⟩) J1).trans d1;have M1:=ab (show HeldE cellE Z w (.slice ak mk xk) XK from by rw [JE];exact F3);clear II JE F3 J1 Nh;rw [IY.out] at d0 d1
       go_wp2_with (refine bq rfl 104 (.tmp 14) (.tmp 83) rfl gb rfl 104 [.slice (some ⟨g2,0,none⟩) m m,.bool false] [.slice ak mk xk,.bool wk] 2 rfl Jc.out cU rfl rfl (by intro u hu;simp at hu;rcases hu with rfl | rfl <;> rfl) ?_)
       intro w4 La hb4;have u4:Upd (fun b=>b=gb) w3 w4:=.ofBut hb4;have Ny:=ab La;have EW:=ab (BD.out.upd u4 BD.out.size (fun b e=>by subst e;exact AB.out));have Mj:=ab (Gk.out.upd u4 (fun b hz=>by rcases hz with hz | hz;exact Nat.ne_of_lt hz.2;exact Nat.ne_of_lt (AD.out b hz).2));have KZ:=ab (M1.out.below EW.out);clear La hb4 u4 d0 d1
       go_upto_region 19 with (fail)
       obtain ⟨Wm,Ay⟩:=ae (w4);obtain ⟨VV,Bo⟩:=ae (Value.slice ak mk xk);obtain ⟨VL,Bs⟩:=ae (XK);obtain ⟨wm_,BK⟩:=ae (wk);have AQ:=ab (show Has Wm gb [VV,.bool wm_] 104 from by rw [Ay,Bo,BK];exact Ny.out);have En:=ab (show HeldE cellE (fun b=>(Z b\/w.heap.size<=b)/\b≠gb/\ov.ownBlock≠some b) Wm VV VL from by rw [Ay,Bo,Bs];exact KZ.out.zone (fun b _ hz=>⟨.inl hz,fun e=>by have:=HZ.out b hz;have:=AB.out;omega,fun e=>by have:=HZ.out b hz;have:=(AD.out b e).1;omega⟩));have D5:=ab (show OwnE lineE (fun b=>(Z b\/w.heap.size<=b)/\b<gb) Wm w.heap.size 104 ov MP from by rw [Ay];exact Mj.out);have Dv:=ab (show Below w.heap.size w Wm from by rw [Ay];exact EW.out);rw [<-Ay];have OFFP:i+1=f\/(false=false/\i+1=t):=.inr ⟨rfl,by omega⟩;have BA:=ab (show cK Ls f t q false i=(VL,false) from by
        unfold cK gF;rw [if_pos (show f<=i/\i<t from ⟨by omega,by omega⟩),if_neg (by decide),if_pos (show f+q<=i by omega)];rw [<-Ky.out,Bs,if_pos OFFP])
       clear Bo Bs BK Ay;clear OFFP;have s1:(((i:Nat):Int)+1 == (f:Int))=false:=by rw [beq_eq_false_iff_ne];omega
       have s1n:(i+1 == f)=false:=by rw [beq_eq_false_iff_ne];omega
       have s2:(((i:Nat):Int)+1 == (t:Int))=true:=by rw [beq_iff_eq];omega
       have s2n:(i+1 == t)=true:=by rw [beq_iff_eq];omega
       go_upto_region 20 with (fail)
       have q1:=AQ.out.cell 1 _ rfl;have q1f:=AQ.out.free 1
       go_upto_region 21 with (fail)
       clear q1 q1f;obtain ⟨W5,AK⟩:=ae (Wm.setCell ⟨gb,1,none⟩ (.bool false));have AI:=ab (show Has W5 gb [VV,.bool false] 104 from by rw [AK];exact AQ.out.set 1 (.bool false));have u5:Upd (fun b=>b=gb) Wm W5:=by rw [AK];exact (Upd.refl (fun b=>b=gb) Wm).setCell (p:=⟨gb,1,none⟩) (.inl rfl) (.bool false)
       have CA:=ab (En.out.upd u5 (fun b hz=>hz.2.1));have CE:=ab (D5.out.upd u5 (fun b hz=>by rcases hz with hz | hz;exact Nat.ne_of_lt hz.2;exact Nat.ne_of_lt (AD.out b hz).2));have Bf:=ab (Dv.out.upd u5 Dv.out.size (fun b e=>by subst e;exact AB.out));rw [<-AK];clear AK u5;have q0:=AI.out.cell 0 _ rfl;have q1:=AI.out.cell 1 _ rfl;have Bk:=ab CE.out.lt;have AG:Below W5.heap.size W5 (W5.alloc (.cells [VV,.bool false].toArray 104)):=zI _ _;have HX:=ab (show HeldE lineE (fun b=>(Z b\/w.heap.size<=b)/\ov.ownBlock≠some b) (W5.alloc (.cells [VV,.bool false].toArray 104)) (.slice (some ⟨W5.heap.size,0,none⟩) 1 1) [cK Ls f t q false i] from by
        rw [BA.out];exact aO (Y:=fun b=>(Z b\/w.heap.size<=b)/\b≠gb/\ov.ownBlock≠some b) [VV,.bool false] (VL,false) (line_rep.2 ⟨_,rfl,CA.out⟩) (fun b _ h=>⟨h.1,h.2.2⟩) ⟨.inr Bf.out.size,fun e=>by have:=(Bk.out _ e).2;omega⟩)
       have DR:=ab ((CE.out.zone (Y:=fun b=>Z b\/w.heap.size<=b) (fun b _ h=>h.1)).below AG);have B0:=ab (Bf.out.trans (AG.mono Bf.out.size));clear AG;obtain ⟨av,cv,Eb⟩:=CA.out.len;subst Eb
       go_wp2_with (at_builtin;refine aw (E:=lineE) (Z:=fun b=>Z b\/w.heap.size<=b) rfl (.tmp 99) (.tmp 101) 22 rfl (.agg #[.slice none 0 0,.bool false]) 32 Tryz.underlying22 bS rfl (by decide) rfl rfl DR.out HX.out (by rw [AL.out];simp only [List.length_singleton];omega) (by rw [AL.out];simp only [List.length_singleton];omega) B0.out.size ?_)
       intro v9 w9 A9 Bd _ _;rw [<-Bh.out] at A9;have H2:=ab A9;have H3:=ab (B0.out.trans Bd);clear A9 Bd q0 q1;go_wp2
       go_roundw
       case rel=>exact ⟨i+1,by omega,by go_num,H2.out,H3.out⟩
       case measure=>simp [intOf] <;> omega
      ·obtain ⟨lv,hb0,hz0,c0,c1,hh⟩:=HC.out i hlt;have Bl:=IW.out i hlt;obtain ⟨⟨X,wb⟩,hX⟩ : ∃ y,y=Ls.getD i zl:=⟨_,rfl⟩;rw [<-hX] at c1 hh Bl;simp only at c1 hh Bl;have EK:=ab hX;obtain ⟨a1,x1,rfl⟩:=hh.len;obtain ⟨m,hm⟩:=ae (X.length);rw [<-hm] at c0 Bl;have HM:=ab hm;have Dl:=ab (show ∀ w9,Below w.heap.size w w9->w9.cell? ⟨b0,off0+i * 2,none⟩=some (.slice a1 m x1) from fun w9 h=>(h.cell (p:=⟨b0,off0+i * 2,none⟩) hb0).trans c0);have c0:=Dl.out wr z5.out;have c1:=(z5.out.cell (p:=⟨b0,off0+i * 2+1,none⟩) hb0).trans c1;have AD:=ab (show ∀ b,ov.ownBlock=some b->w.heap.size<=b/\b<wr.heap.size from hown.lt);obtain ⟨gb,hgb⟩:=ae (wr.heap.size);rw [<-hgb] at AD;obtain ⟨W1,hW1⟩:=ae (wr.alloc (.cells #[.slice a1 m x1,.bool wb] 104));have hb1:Below wr.heap.size wr W1:=by rw [hW1];exact zI _ _
       have A4:=ab (show OwnE lineE (fun b=>(Z b\/w.heap.size<=b)/\b<gb) W1 w.heap.size 104 ov (bX Ls f t q false i) from (hown.zone (fun b hb hz=>⟨hz,by rw [hgb];exact hb⟩)).below hb1);have CI:=ab hgb;have AB:=ab (show w.heap.size<=gb from by rw [hgb];exact z5.out.size);have HH:=ab (show Has W1 gb [.slice a1 m x1,.bool wb] 104 by rw [hW1,hgb];exact Has.new wr _ _);have Ah:=ab (z5.out.trans (hb1.mono z5.out.size));have F9:=ab (show HeldE cellE (fun b=>(Z b\/w.heap.size<=b)/\b≠gb/\ov.ownBlock≠some b) W1 (.slice a1 m x1) X from by rw [hm];exact (hh.below Ah.out).zone (fun b _ hz=>⟨.inl hz,fun e=>by have:=HZ.out b hz;have:=AB.out;omega,fun e=>by have:=HZ.out b hz;have:=(AD.out b e).1;omega⟩));have Bh:=ab (ce Ls f t q false i);have AL:=ab (cC Ls f t q false i);obtain ⟨MP,CD⟩:=ae (bX Ls f t q false i);rw [<-CD] at A4 Bh AL;clear hown hh hX hm hb1 hgb hb0 hz0 CD
       go_upto_region 11 with (fail)
       go_upto_region 12 with (fail)
       rw [<-CI.out,<-hW1];clear hW1 c0 c1;have t1:decide ((f:Int)<=i)=true:=ah (by omega);have t1n:decide (f<=i)=true:=ah (by omega);have t2:decide ((i:Int)<t)=true:=ah (by omega);have t2n:decide (i<t)=true:=ah (by omega);obtain ⟨K,hK⟩:=ae (i - q);have J2:IntKind.i64.wrap ((i:Int) - q)=(K:Int):=by rw [IntKind.wrap_i64];omega
       have hk2:(i:Int) - q=(K:Int):=by omega
       have t3:decide ((f:Int)<=K)=true:=ah (by omega);have t3n:decide (f<=K)=true:=ah (by omega);have t4:decide ((K:Int)<t)=true:=ah (by omega);have t4n:decide (K<t)=true:=ah (by omega);have c0:=Dl.out W1 Ah.out
       go_upto_region 16 with (fail)
       have IY:=ab hK;clear hK
       go_wp2_with (at_make;refine wpList_make_full W1 rfl (.tmp 69) (.tmp 69) 102 rfl w.heap.size 147 i0 (.agg #[.int .i64 0,.slice none 0 0]) 2 Tryz.underlying102 HI.out.1 HI.out.2.1 HI.out.2.2.1 .i64 .i64 _ _ m rfl rfl rfl rfl (by rw [HI.out.2.2.2];omega) (by unfold maxLen;omega) Ah.out.size ?_)
       intro w2 hown2 hg2;have hb2:Below W1.heap.size W1 w2:=(Below.refl _ _).grown hg2 (Nat.le_refl _) (by intro k hk;cases hk);obtain ⟨g2,AY⟩:=ae (W1.heap.size);rw [<-AY] at hown2 ⊢;have FH:=ab (show w.heap.size<=g2/\gb<g2 from ⟨by rw [AY];exact Ah.out.size,by rw [AY];exact HH.out.lt⟩);have Ec:=ab (dj hown2);have MQ:=ab hb2;have IU:=ab (HH.out.below hb2 HH.out.lt);have AM:=ab (Ah.out.trans (hb2.mono Ah.out.size));have E3:=ab (A4.out.below hb2);clear hown2 hg2 hb2 c0 AY
       go_wp2_with (refine bq rfl 104 (.tmp 14) (.tmp 71) rfl gb rfl 104 [.slice a1 m x1,.bool wb] [.slice (some ⟨g2,0,none⟩) m m,.bool false] 2 rfl IU.out cU rfl rfl (by intro u hu;simp at hu;rcases hu with rfl | rfl <;> rfl) ?_)
       intro w3 Cq hb3;have u3:Upd (fun b=>b=gb) w2 w3:=.ofBut hb3;have Jc:=ab Cq;have BD:=ab (AM.out.upd u3 AM.out.size (fun b e=>by subst e;exact AB.out));have Gk:=ab (E3.out.upd u3 (fun b hz=>by rcases hz with hz | hz;exact Nat.ne_of_lt hz.2;exact Nat.ne_of_lt (AD.out b hz).2));have Gd:=ab (Ec.out.upd u3 (fun b hz=>by have:=FH.out;omega));clear Cq hb3 u3
       go_upto_region 18 with (fail)
       have hKn:K<n:=by have:=IY.out;have:=I6.out;omega
       obtain ⟨kv,J1,Nh,d0,d1,F3⟩:=HC.out K hKn;obtain ⟨⟨XK,wk⟩,II⟩ : ∃ y,y=Ls.getD K zl:=⟨_,rfl⟩;rw [<-II] at d1 F3;simp only at d1 F3;have Ky:=ab (show (XK,wk)=Ls.getD (i - q) zl from by rw [II,IY.out]);obtain ⟨ak,xk,rfl⟩:=F3.len;obtain ⟨mk,JE⟩:=ae (XK.length);rw [<-JE] at d0;have d0:=(BD.out.cell (p:=⟨b0,off0+K * 2,none⟩) J1).trans d0;have d1:=(BD.out.cell (p:=⟨b0,off0+K * 2+1,none⟩) J1).trans d1;have M1:=ab (show HeldE cellE Z w (.slice ak mk xk) XK from by rw [JE];exact F3);clear II JE F3 J1 Nh;rw [IY.out] at d0 d1
       go_wp2_with (refine bq rfl 104 (.tmp 14) (.tmp 83) rfl gb rfl 104 [.slice (some ⟨g2,0,none⟩) m m,.bool false] [.slice ak mk xk,.bool wk] 2 rfl Jc.out cU rfl rfl (by intro u hu;simp at hu;rcases hu with rfl | rfl <;> rfl) ?_)
       intro w4 La hb4;have u4:Upd (fun b=>b=gb) w3 w4:=.ofBut hb4;have Ny:=ab La;have EW:=ab (BD.out.upd u4 BD.out.size (fun b e=>by subst e;exact AB.out));have Mj:=ab (Gk.out.upd u4 (fun b hz=>by rcases hz with hz | hz;exact Nat.ne_of_lt hz.2;exact Nat.ne_of_lt (AD.out b hz).2));have KZ:=ab (M1.out.below EW.out);clear La hb4 u4 d0 d1
       go_upto_region 19 with (fail)
       obtain ⟨Wm,Ay⟩:=ae (w4);obtain ⟨VV,Bo⟩:=ae (Value.slice ak mk xk);obtain ⟨VL,Bs⟩:=ae (XK);obtain ⟨wm_,BK⟩:=ae (wk);have AQ:=ab (show Has Wm gb [VV,.bool wm_] 104 from by rw [Ay,Bo,BK];exact Ny.out);have En:=ab (show HeldE cellE (fun b=>(Z b\/w.heap.size<=b)/\b≠gb/\ov.ownBlock≠some b) Wm VV VL from by rw [Ay,Bo,Bs];exact KZ.out.zone (fun b _ hz=>⟨.inl hz,fun e=>by have:=HZ.out b hz;have:=AB.out;omega,fun e=>by have:=HZ.out b hz;have:=(AD.out b e).1;omega⟩));have D5:=ab (show OwnE lineE (fun b=>(Z b\/w.heap.size<=b)/\b<gb) Wm w.heap.size 104 ov MP from by rw [Ay];exact Mj.out);have Dv:=ab (show Below w.heap.size w Wm from by rw [Ay];exact EW.out);rw [<-Ay];have OFFN:¬ (i+1=f\/(false=false/\i+1=t)):=by rintro (e | ⟨e,e2⟩) <;> first | omega | exact absurd e (by decide)
       have BA:=ab (show cK Ls f t q false i=(VL,wm_) from by
        unfold cK gF;rw [if_pos (show f<=i/\i<t from ⟨by omega,by omega⟩),if_neg (by decide),if_pos (show f+q<=i by omega)];rw [<-Ky.out,Bs,if_neg OFFN,BK])
       clear Bo Bs BK Ay;clear OFFN;have s1:(((i:Nat):Int)+1 == (f:Int))=false:=by rw [beq_eq_false_iff_ne];omega
       have s1n:(i+1 == f)=false:=by rw [beq_eq_false_iff_ne];omega
       have s2:(((i:Nat):Int)+1 == (t:Int))=false:=by rw [beq_eq_false_iff_ne];omega
       have s2n:(i+1 == t)=false:=by rw [beq_eq_false_iff_ne];omega
       go_upto_region 21 with (fail)
       have AI:=AQ;have CA:=En;have CE:=D5;have Bf:=Dv;have q0:=AI.out.cell 0 _ rfl;have q1:=AI.out.cell 1 _ rfl;have Bk:=ab CE.out.lt;have AG:Below Wm.heap.size Wm (Wm.alloc (.cells [VV,.bool wm_].toArray 104)):=zI _ _;have HX:=ab (show HeldE lineE (fun b=>(Z b\/w.heap.size<=b)/\ov.ownBlock≠some b) (Wm.alloc (.cells [VV,.bool wm_].toArray 104)) (.slice (some ⟨Wm.heap.size,0,none⟩) 1 1) [cK Ls f t q false i] from by
        rw [BA.out];exact aO (Y:=fun b=>(Z b\/w.heap.size<=b)/\b≠gb/\ov.ownBlock≠some b) [VV,.bool wm_] (VL,wm_) (line_rep.2 ⟨_,rfl,CA.out⟩) (fun b _ h=>⟨h.1,h.2.2⟩) ⟨.inr Bf.out.size,fun e=>by have:=(Bk.out _ e).2;omega⟩)
       have DR:=ab ((CE.out.zone (Y:=fun b=>Z b\/w.heap.size<=b) (fun b _ h=>h.1)).below AG);have B0:=ab (Bf.out.trans (AG.mono Bf.out.size));clear AG;obtain ⟨av,cv,Eb⟩:=CA.out.len;subst Eb
       go_wp2_with (at_builtin;refine aw (E:=lineE) (Z:=fun b=>Z b\/w.heap.size<=b) rfl (.tmp 99) (.tmp 101) 22 rfl (.agg #[.slice none 0 0,.bool false]) 32 Tryz.underlying22 bS rfl (by decide) rfl rfl DR.out HX.out (by rw [AL.out];simp only [List.length_singleton];omega) (by rw [AL.out];simp only [List.length_singleton];omega) B0.out.size ?_)
       intro v9 w9 A9 Bd _ _;rw [<-Bh.out] at A9;have H2:=ab A9;have H3:=ab (B0.out.trans Bd);clear A9 Bd q0 q1;go_wp2
       go_roundw
       case rel=>exact ⟨i+1,by omega,by go_num,H2.out,H3.out⟩
       case measure=>simp [intOf] <;> omega
     ·by_cases EH:i+1=t
      ·obtain ⟨lv,hb0,hz0,c0,c1,hh⟩:=HC.out i hlt;have Bl:=IW.out i hlt;obtain ⟨⟨X,wb⟩,hX⟩ : ∃ y,y=Ls.getD i zl:=⟨_,rfl⟩;rw [<-hX] at c1 hh Bl;simp only at c1 hh Bl;have EK:=ab hX;obtain ⟨a1,x1,rfl⟩:=hh.len;obtain ⟨m,hm⟩:=ae (X.length);rw [<-hm] at c0 Bl;have HM:=ab hm;have Dl:=ab (show ∀ w9,Below w.heap.size w w9->w9.cell? ⟨b0,off0+i * 2,none⟩=some (.slice a1 m x1) from fun w9 h=>(h.cell (p:=⟨b0,off0+i * 2,none⟩) hb0).trans c0);have c0:=Dl.out wr z5.out;have c1:=(z5.out.cell (p:=⟨b0,off0+i * 2+1,none⟩) hb0).trans c1;have AD:=ab (show ∀ b,ov.ownBlock=some b->w.heap.size<=b/\b<wr.heap.size from hown.lt);obtain ⟨gb,hgb⟩:=ae (wr.heap.size);rw [<-hgb] at AD;obtain ⟨W1,hW1⟩:=ae (wr.alloc (.cells #[.slice a1 m x1,.bool wb] 104));have hb1:Below wr.heap.size wr W1:=by rw [hW1];exact zI _ _
       have A4:=ab (show OwnE lineE (fun b=>(Z b\/w.heap.size<=b)/\b<gb) W1 w.heap.size 104 ov (bX Ls f t q false i) from (hown.zone (fun b hb hz=>⟨hz,by rw [hgb];exact hb⟩)).below hb1);have CI:=ab hgb;have AB:=ab (show w.heap.size<=gb from by rw [hgb];exact z5.out.size);have HH:=ab (show Has W1 gb [.slice a1 m x1,.bool wb] 104 by rw [hW1,hgb];exact Has.new wr _ _);have Ah:=ab (z5.out.trans (hb1.mono z5.out.size));have F9:=ab (show HeldE cellE (fun b=>(Z b\/w.heap.size<=b)/\b≠gb/\ov.ownBlock≠some b) W1 (.slice a1 m x1) X from by rw [hm];exact (hh.below Ah.out).zone (fun b _ hz=>⟨.inl hz,fun e=>by have:=HZ.out b hz;have:=AB.out;omega,fun e=>by have:=HZ.out b hz;have:=(AD.out b e).1;omega⟩));have Bh:=ab (ce Ls f t q false i);have AL:=ab (cC Ls f t q false i);obtain ⟨MP,CD⟩:=ae (bX Ls f t q false i);rw [<-CD] at A4 Bh AL;clear hown hh hX hm hb1 hgb hb0 hz0 CD
       go_upto_region 11 with (fail)
       go_upto_region 12 with (fail)
       rw [<-CI.out,<-hW1];clear hW1 c0 c1;have t1:decide ((f:Int)<=i)=true:=ah (by omega);have t1n:decide (f<=i)=true:=ah (by omega);have t2:decide ((i:Int)<t)=true:=ah (by omega);have t2n:decide (i<t)=true:=ah (by omega);obtain ⟨K,hK⟩ : ∃ K:Int,K=i - q:=⟨_,rfl⟩;have J2:IntKind.i64.wrap ((i:Int) - q)=K:=by rw [IntKind.wrap_i64];omega
       have hk2:(i:Int) - q=K:=by omega
       have t3:decide ((f:Int)<=K)=false:=ai (by omega);have c0:=Dl.out W1 Ah.out
       go_upto_region 16 with (fail)
       have IY:=ab hK;clear hK
       go_wp2_with (at_make;refine wpList_make_full W1 rfl (.tmp 69) (.tmp 69) 102 rfl w.heap.size 147 i0 (.agg #[.int .i64 0,.slice none 0 0]) 2 Tryz.underlying102 HI.out.1 HI.out.2.1 HI.out.2.2.1 .i64 .i64 _ _ m rfl rfl rfl rfl (by rw [HI.out.2.2.2];omega) (by unfold maxLen;omega) Ah.out.size ?_)
       intro w2 hown2 hg2;have hb2:Below W1.heap.size W1 w2:=(Below.refl _ _).grown hg2 (Nat.le_refl _) (by intro k hk;cases hk);obtain ⟨g2,AY⟩:=ae (W1.heap.size);rw [<-AY] at hown2 ⊢;have FH:=ab (show w.heap.size<=g2/\gb<g2 from ⟨by rw [AY];exact Ah.out.size,by rw [AY];exact HH.out.lt⟩);have Ec:=ab (dj hown2);have MQ:=ab hb2;have IU:=ab (HH.out.below hb2 HH.out.lt);have AM:=ab (Ah.out.trans (hb2.mono Ah.out.size));have E3:=ab (A4.out.below hb2);clear hown2 hg2 hb2 c0 AY
       go_wp2_with (refine bq rfl 104 (.tmp 14) (.tmp 71) rfl gb rfl 104 [.slice a1 m x1,.bool wb] [.slice (some ⟨g2,0,none⟩) m m,.bool false] 2 rfl IU.out cU rfl rfl (by intro u hu;simp at hu;rcases hu with rfl | rfl <;> rfl) ?_)
       intro w3 Cq hb3;have u3:Upd (fun b=>b=gb) w2 w3:=.ofBut hb3;have Jc:=ab Cq;have BD:=ab (AM.out.upd u3 AM.out.size (fun b e=>by subst e;exact AB.out));have Gk:=ab (E3.out.upd u3 (fun b hz=>by rcases hz with hz | hz;exact Nat.ne_of_lt hz.2;exact Nat.ne_of_lt (AD.out b hz).2));have Gd:=ab (Ec.out.upd u3 (fun b hz=>by have:=FH.out;omega));clear Cq hb3 u3
       go_upto_region 19 with (fail)
       obtain ⟨Wm,Ay⟩:=ae (w3);obtain ⟨VV,Bo⟩:=ae (Value.slice (some ⟨g2,0,none⟩) m m);obtain ⟨VL,Bs⟩:=ae (List.replicate m zc);obtain ⟨wm_,BK⟩:=ae (false);have AQ:=ab (show Has Wm gb [VV,.bool wm_] 104 from by rw [Ay,Bo,BK];exact Jc.out);have En:=ab (show HeldE cellE (fun b=>(Z b\/w.heap.size<=b)/\b≠gb/\ov.ownBlock≠some b) Wm VV VL from by rw [Ay,Bo,Bs];exact Gd.out.zone (fun b _ hz=>by have:=FH.out;subst hz;exact ⟨.inr this.1,by omega,fun e=>by have:=(AD.out _ e).2;omega⟩));have D5:=ab (show OwnE lineE (fun b=>(Z b\/w.heap.size<=b)/\b<gb) Wm w.heap.size 104 ov MP from by rw [Ay];exact Gk.out);have Dv:=ab (show Below w.heap.size w Wm from by rw [Ay];exact BD.out);rw [<-Ay];have OFFP:i+1=f\/(false=false/\i+1=t):=.inr ⟨rfl,by omega⟩;have BA:=ab (show cK Ls f t q false i=(VL,false) from by
        unfold cK gF;rw [if_pos (show f<=i/\i<t from ⟨by omega,by omega⟩),if_neg (by decide),if_neg (show ¬ f+q<=i by omega)];rw [<-EK.out,Bs,if_pos OFFP,HM.out])
       clear Bo Bs BK Ay;clear OFFP;have s1:(((i:Nat):Int)+1 == (f:Int))=false:=by rw [beq_eq_false_iff_ne];omega
       have s1n:(i+1 == f)=false:=by rw [beq_eq_false_iff_ne];omega
       have s2:(((i:Nat):Int)+1 == (t:Int))=true:=by rw [beq_iff_eq];omega
       have s2n:(i+1 == t)=true:=by rw [beq_iff_eq];omega
       go_upto_region 20 with (fail)
       have q1:=AQ.out.cell 1 _ rfl;have q1f:=AQ.out.free 1
       go_upto_region 21 with (fail)
       clear q1 q1f;obtain ⟨W5,AK⟩:=ae (Wm.setCell ⟨gb,1,none⟩ (.bool false));have AI:=ab (show Has W5 gb [VV,.bool false] 104 from by rw [AK];exact AQ.out.set 1 (.bool false));have u5:Upd (fun b=>b=gb) Wm W5:=by rw [AK];exact (Upd.refl (fun b=>b=gb) Wm).setCell (p:=⟨gb,1,none⟩) (.inl rfl) (.bool false)
       have CA:=ab (En.out.upd u5 (fun b hz=>hz.2.1));have CE:=ab (D5.out.upd u5 (fun b hz=>by rcases hz with hz | hz;exact Nat.ne_of_lt hz.2;exact Nat.ne_of_lt (AD.out b hz).2));have Bf:=ab (Dv.out.upd u5 Dv.out.size (fun b e=>by subst e;exact AB.out));rw [<-AK];clear AK u5;have q0:=AI.out.cell 0 _ rfl;have q1:=AI.out.cell 1 _ rfl;have Bk:=ab CE.out.lt;have AG:Below W5.heap.size W5 (W5.alloc (.cells [VV,.bool false].toArray 104)):=zI _ _;have HX:=ab (show HeldE lineE (fun b=>(Z b\/w.heap.size<=b)/\ov.ownBlock≠some b) (W5.alloc (.cells [VV,.bool false].toArray 104)) (.slice (some ⟨W5.heap.size,0,none⟩) 1 1) [cK Ls f t q false i] from by
        rw [BA.out];exact aO (Y:=fun b=>(Z b\/w.heap.size<=b)/\b≠gb/\ov.ownBlock≠some b) [VV,.bool false] (VL,false) (line_rep.2 ⟨_,rfl,CA.out⟩) (fun b _ h=>⟨h.1,h.2.2⟩) ⟨.inr Bf.out.size,fun e=>by have:=(Bk.out _ e).2;omega⟩)
       have DR:=ab ((CE.out.zone (Y:=fun b=>Z b\/w.heap.size<=b) (fun b _ h=>h.1)).below AG);have B0:=ab (Bf.out.trans (AG.mono Bf.out.size));clear AG;obtain ⟨av,cv,Eb⟩:=CA.out.len;subst Eb
       go_wp2_with (at_builtin;refine aw (E:=lineE) (Z:=fun b=>Z b\/w.heap.size<=b) rfl (.tmp 99) (.tmp 101) 22 rfl (.agg #[.slice none 0 0,.bool false]) 32 Tryz.underlying22 bS rfl (by decide) rfl rfl DR.out HX.out (by rw [AL.out];simp only [List.length_singleton];omega) (by rw [AL.out];simp only [List.length_singleton];omega) B0.out.size ?_)
       intro v9 w9 A9 Bd _ _;rw [<-Bh.out] at A9;have H2:=ab A9;have H3:=ab (B0.out.trans Bd);clear A9 Bd q0 q1;go_wp2
       go_roundw
       case rel=>exact ⟨i+1,by omega,by go_num,H2.out,H3.out⟩
       case measure=>simp [intOf] <;> omega
      ·obtain ⟨lv,hb0,hz0,c0,c1,hh⟩:=HC.out i hlt;have Bl:=IW.out i hlt;obtain ⟨⟨X,wb⟩,hX⟩ : ∃ y,y=Ls.getD i zl:=⟨_,rfl⟩;rw [<-hX] at c1 hh Bl;simp only at c1 hh Bl;have EK:=ab hX;obtain ⟨a1,x1,rfl⟩:=hh.len;obtain ⟨m,hm⟩:=ae (X.length);rw [<-hm] at c0 Bl;have HM:=ab hm;have Dl:=ab (show ∀ w9,Below w.heap.size w w9->w9.cell? ⟨b0,off0+i * 2,none⟩=some (.slice a1 m x1) from fun w9 h=>(h.cell (p:=⟨b0,off0+i * 2,none⟩) hb0).trans c0);have c0:=Dl.out wr z5.out;have c1:=(z5.out.cell (p:=⟨b0,off0+i * 2+1,none⟩) hb0).trans c1;have AD:=ab (show ∀ b,ov.ownBlock=some b->w.heap.size<=b/\b<wr.heap.size from hown.lt);obtain ⟨gb,hgb⟩:=ae (wr.heap.size);rw [<-hgb] at AD;obtain ⟨W1,hW1⟩:=ae (wr.alloc (.cells #[.slice a1 m x1,.bool wb] 104));have hb1:Below wr.heap.size wr W1:=by rw [hW1];exact zI _ _
       have A4:=ab (show OwnE lineE (fun b=>(Z b\/w.heap.size<=b)/\b<gb) W1 w.heap.size 104 ov (bX Ls f t q false i) from (hown.zone (fun b hb hz=>⟨hz,by rw [hgb];exact hb⟩)).below hb1);have CI:=ab hgb;have AB:=ab (show w.heap.size<=gb from by rw [hgb];exact z5.out.size);have HH:=ab (show Has W1 gb [.slice a1 m x1,.bool wb] 104 by rw [hW1,hgb];exact Has.new wr _ _);have Ah:=ab (z5.out.trans (hb1.mono z5.out.size));have F9:=ab (show HeldE cellE (fun b=>(Z b\/w.heap.size<=b)/\b≠gb/\ov.ownBlock≠some b) W1 (.slice a1 m x1) X from by rw [hm];exact (hh.below Ah.out).zone (fun b _ hz=>⟨.inl hz,fun e=>by have:=HZ.out b hz;have:=AB.out;omega,fun e=>by have:=HZ.out b hz;have:=(AD.out b e).1;omega⟩));have Bh:=ab (ce Ls f t q false i);have AL:=ab (cC Ls f t q false i);obtain ⟨MP,CD⟩:=ae (bX Ls f t q false i);rw [<-CD] at A4 Bh AL;clear hown hh hX hm hb1 hgb hb0 hz0 CD
       go_upto_region 11 with (fail)
       go_upto_region 12 with (fail)
       rw [<-CI.out,<-hW1];clear hW1 c0 c1;have t1:decide ((f:Int)<=i)=true:=ah (by omega);have t1n:decide (f<=i)=true:=ah (by omega);have t2:decide ((i:Int)<t)=true:=ah (by omega);have t2n:decide (i<t)=true:=ah (by omega);obtain ⟨K,hK⟩ : ∃ K:Int,K=i - q:=⟨_,rfl⟩;have J2:IntKind.i64.wrap ((i:Int) - q)=K:=by rw [IntKind.wrap_i64];omega
       have hk2:(i:Int) - q=K:=by omega
       have t3:decide ((f:Int)<=K)=false:=ai (by omega);have c0:=Dl.out W1 Ah.out
       go_upto_region 16 with (fail)
       have IY:=ab hK;clear hK
       go_wp2_with (at_make;refine wpList_make_full W1 rfl (.tmp 69) (.tmp 69) 102 rfl w.heap.size 147 i0 (.agg #[.int .i64 0,.slice none 0 0]) 2 Tryz.underlying102 HI.out.1 HI.out.2.1 HI.out.2.2.1 .i64 .i64 _ _ m rfl rfl rfl rfl (by rw [HI.out.2.2.2];omega) (by unfold maxLen;omega) Ah.out.size ?_)
       intro w2 hown2 hg2;have hb2:Below W1.heap.size W1 w2:=(Below.refl _ _).grown hg2 (Nat.le_refl _) (by intro k hk;cases hk);obtain ⟨g2,AY⟩:=ae (W1.heap.size);rw [<-AY] at hown2 ⊢;have FH:=ab (show w.heap.size<=g2/\gb<g2 from ⟨by rw [AY];exact Ah.out.size,by rw [AY];exact HH.out.lt⟩);have Ec:=ab (dj hown2);have MQ:=ab hb2;have IU:=ab (HH.out.below hb2 HH.out.lt);have AM:=ab (Ah.out.trans (hb2.mono Ah.out.size));have E3:=ab (A4.out.below hb2);clear hown2 hg2 hb2 c0 AY
       go_wp2_with (refine bq rfl 104 (.tmp 14) (.tmp 71) rfl gb rfl 104 [.slice a1 m x1,.bool wb] [.slice (some ⟨g2,0,none⟩) m m,.bool false] 2 rfl IU.out cU rfl rfl (by intro u hu;simp at hu;rcases hu with rfl | rfl <;> rfl) ?_)
       intro w3 Cq hb3;have u3:Upd (fun b=>b=gb) w2 w3:=.ofBut hb3;have Jc:=ab Cq;have BD:=ab (AM.out.upd u3 AM.out.size (fun b e=>by subst e;exact AB.out));have Gk:=ab (E3.out.upd u3 (fun b hz=>by rcases hz with hz | hz;exact Nat.ne_of_lt hz.2;exact Nat.ne_of_lt (AD.out b hz).2));have Gd:=ab (Ec.out.upd u3 (fun b hz=>by have:=FH.out;omega));clear Cq hb3 u3
       go_upto_region 19 with (fail)
       obtain ⟨Wm,Ay⟩:=ae (w3);obtain ⟨VV,Bo⟩:=ae (Value.slice (some ⟨g2,0,none⟩) m m);obtain ⟨VL,Bs⟩:=ae (List.replicate m zc);obtain ⟨wm_,BK⟩:=ae (false);have AQ:=ab (show Has Wm gb [VV,.bool wm_] 104 from by rw [Ay,Bo,BK];exact Jc.out);have En:=ab (show HeldE cellE (fun b=>(Z b\/w.heap.size<=b)/\b≠gb/\ov.ownBlock≠some b) Wm VV VL from by rw [Ay,Bo,Bs];exact Gd.out.zone (fun b _ hz=>by have:=FH.out;subst hz;exact ⟨.inr this.1,by omega,fun e=>by have:=(AD.out _ e).2;omega⟩));have D5:=ab (show OwnE lineE (fun b=>(Z b\/w.heap.size<=b)/\b<gb) Wm w.heap.size 104 ov MP from by rw [Ay];exact Gk.out);have Dv:=ab (show Below w.heap.size w Wm from by rw [Ay];exact BD.out);rw [<-Ay];have OFFN:¬ (i+1=f\/(false=false/\i+1=t)):=by rintro (e | ⟨e,e2⟩) <;> first | omega | exact absurd e (by decide)
       have BA:=ab (show cK Ls f t q false i=(VL,wm_) from by
        unfold cK gF;rw [if_pos (show f<=i/\i<t from ⟨by omega,by omega⟩),if_neg (by decide),if_neg (show ¬ f+q<=i by omega)];rw [<-EK.out,Bs,if_neg OFFN,BK,HM.out])
       clear Bo Bs BK Ay;clear OFFN;have s1:(((i:Nat):Int)+1 == (f:Int))=false:=by rw [beq_eq_false_iff_ne];omega
       have s1n:(i+1 == f)=false:=by rw [beq_eq_false_iff_ne];omega
       have s2:(((i:Nat):Int)+1 == (t:Int))=false:=by rw [beq_eq_false_iff_ne];omega
       have s2n:(i+1 == t)=false:=by rw [beq_eq_false_iff_ne];omega
       go_upto_region 21 with (fail)
       have AI:=AQ;have CA:=En;have CE:=D5;have Bf:=Dv;have q0:=AI.out.cell 0 _ rfl;have q1:=AI.out.cell 1 _ rfl;have Bk:=ab CE.out.lt;have AG:Below Wm.heap.size Wm (Wm.alloc (.cells [VV,.bool wm_].toArray 104)):=zI _ _;have HX:=ab (show HeldE lineE (fun b=>(Z b\/w.heap.size<=b)/\ov.ownBlock≠some b) (Wm.alloc (.cells [VV,.bool wm_].toArray 104)) (.slice (some ⟨Wm.heap.size,0,none⟩) 1 1) [cK Ls f t q false i] from by
        rw [BA.out];exact aO (Y:=fun b=>(Z b\/w.heap.size<=b)/\b≠gb/\ov.ownBlock≠some b) [VV,.bool wm_] (VL,wm_) (line_rep.2 ⟨_,rfl,CA.out⟩) (fun b _ h=>⟨h.1,h.2.2⟩) ⟨.inr Bf.out.size,fun e=>by have:=(Bk.out _ e).2;omega⟩)
       have DR:=ab ((CE.out.zone (Y:=fun b=>Z b\/w.heap.size<=b) (fun b _ h=>h.1)).below AG);have B0:=ab (Bf.out.trans (AG.mono Bf.out.size));clear AG;obtain ⟨av,cv,Eb⟩:=CA.out.len;subst Eb
       go_wp2_with (at_builtin;refine aw (E:=lineE) (Z:=fun b=>Z b\/w.heap.size<=b) rfl (.tmp 99) (.tmp 101) 22 rfl (.agg #[.slice none 0 0,.bool false]) 32 Tryz.underlying22 bS rfl (by decide) rfl rfl DR.out HX.out (by rw [AL.out];simp only [List.length_singleton];omega) (by rw [AL.out];simp only [List.length_singleton];omega) B0.out.size ?_)
       intro v9 w9 A9 Bd _ _;rw [<-Bh.out] at A9;have H2:=ab A9;have H3:=ab (B0.out.trans Bd);clear A9 Bd q0 q1;go_wp2
       go_roundw
       case rel=>exact ⟨i+1,by omega,by go_num,H2.out,H3.out⟩
       case measure=>simp [intOf] <;> omega
    ·obtain ⟨lv,hb0,hz0,c0,c1,hh⟩:=HC.out i hlt;have Bl:=IW.out i hlt;obtain ⟨⟨X,wb⟩,hX⟩ : ∃ y,y=Ls.getD i zl:=⟨_,rfl⟩;rw [<-hX] at c1 hh Bl;simp only at c1 hh Bl;have EK:=ab hX;obtain ⟨a1,x1,rfl⟩:=hh.len;obtain ⟨m,hm⟩:=ae (X.length);rw [<-hm] at c0 Bl;have HM:=ab hm;have Dl:=ab (show ∀ w9,Below w.heap.size w w9->w9.cell? ⟨b0,off0+i * 2,none⟩=some (.slice a1 m x1) from fun w9 h=>(h.cell (p:=⟨b0,off0+i * 2,none⟩) hb0).trans c0);have c0:=Dl.out wr z5.out;have c1:=(z5.out.cell (p:=⟨b0,off0+i * 2+1,none⟩) hb0).trans c1;have AD:=ab (show ∀ b,ov.ownBlock=some b->w.heap.size<=b/\b<wr.heap.size from hown.lt);obtain ⟨gb,hgb⟩:=ae (wr.heap.size);rw [<-hgb] at AD;obtain ⟨W1,hW1⟩:=ae (wr.alloc (.cells #[.slice a1 m x1,.bool wb] 104));have hb1:Below wr.heap.size wr W1:=by rw [hW1];exact zI _ _
     have A4:=ab (show OwnE lineE (fun b=>(Z b\/w.heap.size<=b)/\b<gb) W1 w.heap.size 104 ov (bX Ls f t q false i) from (hown.zone (fun b hb hz=>⟨hz,by rw [hgb];exact hb⟩)).below hb1);have CI:=ab hgb;have AB:=ab (show w.heap.size<=gb from by rw [hgb];exact z5.out.size);have HH:=ab (show Has W1 gb [.slice a1 m x1,.bool wb] 104 by rw [hW1,hgb];exact Has.new wr _ _);have Ah:=ab (z5.out.trans (hb1.mono z5.out.size));have F9:=ab (show HeldE cellE (fun b=>(Z b\/w.heap.size<=b)/\b≠gb/\ov.ownBlock≠some b) W1 (.slice a1 m x1) X from by rw [hm];exact (hh.below Ah.out).zone (fun b _ hz=>⟨.inl hz,fun e=>by have:=HZ.out b hz;have:=AB.out;omega,fun e=>by have:=HZ.out b hz;have:=(AD.out b e).1;omega⟩));have Bh:=ab (ce Ls f t q false i);have AL:=ab (cC Ls f t q false i);obtain ⟨MP,CD⟩:=ae (bX Ls f t q false i);rw [<-CD] at A4 Bh AL;clear hown hh hX hm hb1 hgb hb0 hz0 CD
     go_upto_region 11 with (fail)
     go_upto_region 12 with (fail)
     rw [<-CI.out,<-hW1];clear hW1 c0 c1;have t1:decide ((f:Int)<=i)=true:=ah (by omega);have t1n:decide (f<=i)=true:=ah (by omega);have t2:decide ((i:Int)<t)=false:=ai (by omega);have t2n:decide (i<t)=false:=ai (by omega)
     go_upto_region 19 with (fail)
     obtain ⟨Wm,Ay⟩:=ae (W1);obtain ⟨VV,Bo⟩:=ae (Value.slice a1 m x1);obtain ⟨VL,Bs⟩:=ae (X);obtain ⟨wm_,BK⟩:=ae (wb);have AQ:=ab (show Has Wm gb [VV,.bool wm_] 104 from by rw [Ay,Bo,BK];exact HH.out);have En:=ab (show HeldE cellE (fun b=>(Z b\/w.heap.size<=b)/\b≠gb/\ov.ownBlock≠some b) Wm VV VL from by rw [Ay,Bo,Bs];exact F9.out);have D5:=ab (show OwnE lineE (fun b=>(Z b\/w.heap.size<=b)/\b<gb) Wm w.heap.size 104 ov MP from by rw [Ay];exact A4.out);have Dv:=ab (show Below w.heap.size w Wm from by rw [Ay];exact Ah.out);rw [<-Ay];have OFFN:¬ (i+1=f\/(false=false/\i+1=t)):=by rintro (e | ⟨e,e2⟩) <;> first | omega | exact absurd e (by decide)
     have BA:=ab (show cK Ls f t q false i=(VL,wm_) from by
      unfold cK gF;rw [if_neg (show ¬ (f<=i/\i<t) by omega),<-EK.out,Bs,if_neg OFFN,BK])
     clear Bo Bs BK Ay;clear OFFN;have s1:(((i:Nat):Int)+1 == (f:Int))=false:=by rw [beq_eq_false_iff_ne];omega
     have s1n:(i+1 == f)=false:=by rw [beq_eq_false_iff_ne];omega
     have s2:(((i:Nat):Int)+1 == (t:Int))=false:=by rw [beq_eq_false_iff_ne];omega
     have s2n:(i+1 == t)=false:=by rw [beq_eq_false_iff_ne];omega
     go_upto_region 21 with (fail)
     have AI:=AQ;have CA:=En;have CE:=D5;have Bf:=Dv;have q0:=AI.out.cell 0 _ rfl;have q1:=AI.out.cell 1 _ rfl;have Bk:=ab CE.out.lt;have AG:Below Wm.heap.size Wm (Wm.alloc (.cells [VV,.bool wm_].toArray 104)):=zI _ _;have HX:=ab (show HeldE lineE (fun b=>(Z b\/w.heap.size<=b)/\ov.ownBlock≠some b) (Wm.alloc (.cells [VV,.bool wm_].toArray 104)) (.slice (some ⟨Wm.heap.size,0,none⟩) 1 1) [cK Ls f t q false i] from by
      rw [BA.out];exact aO (Y:=fun b=>(Z b\/w.heap.size<=b)/\b≠gb/\ov.ownBlock≠some b) [VV,.bool wm_] (VL,wm_) (line_rep.2 ⟨_,rfl,CA.out⟩) (fun b _ h=>⟨h.1,h.2.2⟩) ⟨.inr Bf.out.size,fun e=>by have:=(Bk.out _ e).2;omega⟩)
     have DR:=ab ((CE.out.zone (Y:=fun b=>Z b\/w.heap.size<=b) (fun b _ h=>h.1)).below AG);have B0:=ab (Bf.out.trans (AG.mono Bf.out.size));clear AG;obtain ⟨av,cv,Eb⟩:=CA.out.len;subst Eb
     go_wp2_with (at_builtin;refine aw (E:=lineE) (Z:=fun b=>Z b\/w.heap.size<=b) rfl (.tmp 99) (.tmp 101) 22 rfl (.agg #[.slice none 0 0,.bool false]) 32 Tryz.underlying22 bS rfl (by decide) rfl rfl DR.out HX.out (by rw [AL.out];simp only [List.length_singleton];omega) (by rw [AL.out];simp only [List.length_singleton];omega) B0.out.size ?_)
     intro v9 w9 A9 Bd _ _;rw [<-Bh.out] at A9;have H2:=ab A9;have H3:=ab (B0.out.trans Bd);clear A9 Bd q0 q1;go_wp2
     go_roundw
     case rel=>exact ⟨i+1,by omega,by go_num,H2.out,H3.out⟩
     case measure=>simp [intOf] <;> omega
  ·obtain rfl:i=n:=by omega
   have hF:=AN.out;rw [hF] at hown;have HO:=ab hown;clear hown;go_wp2;go_ret;exact ⟨_,rfl,HO.out,z5.out⟩
end Go.Proofs.YtoeggiplcaegoaaGreatDoor
