import Derived.Test.YtoeggiplcaegoaaGreatDoorZ0
import Derived.Test.YtoeggiplcaegoaaGreatDoorMg3
import Derived.Test.YtoeggiplcaegoaaGreatDoorMg1
import Derived.Test.YtoeggiplcaegoaaGreatDoorMg2
import Derived.Lib.MinMax
set_option maxRecDepth 100000
set_option maxHeartbeats 2000000
namespace Go.Proofs.YtoeggiplcaegoaaGreatDoor
open Go.RowKit Go.ChangeShapes Go.WideShapes
theorem qr{xs:List Int}{i:Nat}(hi:i<(aV (jR (aq xs)) xs.length).length):∃ a b:Nat,(toI (aV (jR (aq xs)) xs.length)++[(xs.length:Int)]).getD i 0=(a:Int)/\(toI (aV (jR (aq xs)) xs.length)++[(xs.length:Int)]).getD (i+1) 0=(b:Int)/\(clS xs).getD i (0,0)=(a,b)/\a<b/\b<=xs.length:=by
 have h0:=sw (jR (aq xs)) (kK _) xs.length i hi;have hl:=iG (jR (aq xs)) (kK _) xs.length;have hm:(clS xs).getD i (0,0) ∈ clS xs:=by
  unfold clS;rw [List.getD,List.getElem?_eq_getElem (by omega)];exact List.getElem_mem _
 have Bn:=jN _ _ _ hm;have e:toI (aV (jR (aq xs)) xs.length)++[(xs.length:Int)]=toI (aV (jR (aq xs)) xs.length++[xs.length]):=by simp [toI]
 have hg:∀ k,k<(aV (jR (aq xs)) xs.length++[xs.length]).length->(toI (aV (jR (aq xs)) xs.length++[xs.length])).getD k 0=(((aV (jR (aq xs)) xs.length++[xs.length]).getD k 0:Nat):Int):=fun k hk=>by
  rw [yO hk]
  simp [List.getD,List.getElem?_eq_getElem hk]
 have h1:(clS xs).getD i (0,0)=_:=h0;rw [h1] at Bn;refine ⟨_,_,?_,?_,h1,Bn.1,Bn.2⟩
 ·rw [e,hg i (by rw [List.length_append];omega)]
 ·rw [e,hg (i+1) (by rw [List.length_append,List.length_singleton];omega)]
theorem ss(xs:List Int)(i:Nat)(h:i<(clS xs).length):(bj xs).take (i+1)=(bj xs).take i++[bu xs ((clS xs).getD i (0,0))]:=by
 unfold bj;rw [List.take_succ_eq_append_getElem (by rw [List.length_map];exact h),List.getElem_map]
 simp [List.getD,List.getElem?_eq_getElem h]
theorem uC(xs:List Int):(bj xs).length=(aV (jR (aq xs)) xs.length).length:=by
 unfold bj;rw [List.length_map];exact iG _ (kK _) _
theorem mv(Z:an)(v:Value)(xs:List Int)(w:World)(hx0:HeldE (aE .i32) Z w v xs)(hn:xs.length<=1000000)(hr:bI xs):Calls Tryz.prog 90 #[v] w (rI w (bj xs)):=by
 have hx:=hx0.ints;obtain ⟨ao,ca,rfl,hmx,hmy,_⟩:=id hx0;have HX:=ab hx;have Jg:=ab hmy;have HST:=ab (oL _ xs w hx hn hr);obtain ⟨n,Et⟩:=ae (xs.length);have HN:=ab Et;have Gj:=ab (uC xs);have Na:=ab (fun i h=>@qr xs i h);have ED:=ab (lf (jR (aq xs)) xs.length);obtain ⟨ST,hST⟩:=ae (aV (jR (aq xs)) xs.length);rw [<-hST] at HST Gj Na ED;rw [<-Et] at HX HST hn hmx Na ED ⊢;clear hx hx0 hr Et hST hmy
 go_enter Tryz.func90,Tryz.ntmps90
 go_wp2_with fail
 refine HST.out.mono ?_;rintro e w1 ⟨v1,k1,rfl,AA,b1⟩;have AA:=dH (Z:=fun b=>w.heap.size<=b) AA;have hb2:=zI w1 (.cells [.int .i64 (n:Int)].toArray 3);have AF:=AA.lt;have HU:=ab (show HeldE (aE .i64) (fun b=>w.heap.size<=b/\v1.ownBlock≠some b) (w1.alloc (.cells [.int .i64 (n:Int)].toArray 3)) (.slice (some ⟨w1.heap.size,0,none⟩) 1 1) [(n:Int)] from aO (Y:=fun _=>False) [.int .i64 (n:Int)] (n:Int) rfl (fun _ _ h=>h.elim) ⟨b1.size,fun e=>by have:=(AF _ e).2;omega⟩);have A4:=ab (AA.below hb2);have Ag:=ab (b1.trans (hb2.mono b1.size));have Nj:(toI ST).length=ST.length:=xN ST;have FH:=ab Nj;clear AA b1 hb2 AF Nj
 go_wp2_with (at_builtin;refine aw (E:=aE .i64) (Z:=fun b=>w.heap.size<=b) rfl (.tmp 7) (.tmp 10) 76 rfl (.int .i64 0) 8 Tryz.underlying76 oK rfl (by decide) rfl rfl A4.out HU.out (by rw [FH.out];simp only [List.length_singleton];have:=ED.out;omega) (by rw [FH.out];simp only [List.length_singleton];have:=ED.out;omega) Ag.out.size ?_)
 intro v2 w2 Ap b2 _ _;have F6:=(Ap.held (Z:=fun b=>w.heap.size<=b) (fun b h _=>h)).ints;obtain ⟨aa,cc,rfl,KP⟩:=F6.view;have DU:=ab KP;have HAT:=ab (show (toI ST++[(n:Int)]).length=ST.length+1 from by rw [List.length_append,FH.out];rfl);obtain ⟨m,hm⟩:=ae (ST.length);have HM:=ab hm;rw [HAT.out,<-hm] at DU ⊢;have AM:=ab (Ag.out.trans b2);have hmn:m<=1000000:=by rw [hm];have:=ED.out;omega
 have HSP2:=ab (show ∀ i,i<m->_ from fun i h=>Na.out i (by rw [<-hm];exact h));clear Ap b2 F6 KP HU A4 Ag hm HST;go_wp2
 go_loopw [3,5] (fun ov i wr=>∃ k:Nat,k<=m/\i=.int .i64 k/\OwnE rowE (fun b=>w2.heap.size<=b) wr w2.heap.size 27 ov ((bj xs).take k)/\Below w2.heap.size w2 wr) (fun _ i _=>m - (intOf i).toNat)
 case atStart=>exact ⟨0,Nat.zero_le _,rfl,OwnE.nil _ _ _ _ _,Below.refl _ _⟩
 case round =>
  obtain ⟨k,hk,rfl,hown,zN⟩:=hrel;obtain ⟨ov,Jz⟩:=ae (u3);rw [<-Jz] at hown ⊢;have HO:=ab hown;have z5:=ab zN;clear Jz hown zN
  by_cases hlt:k<m
  ·obtain ⟨a,b,ha,hb,hp,hab,FV⟩:=HSP2.out k hlt;obtain ⟨ba,oa,e1,hb1,c1⟩:=DU.out k (by omega);obtain ⟨ba',oa',e2,_,c2⟩:=DU.out (k+1) (by omega);subst e1
   cases e2
   rw [ha] at c1;rw [hb] at c2;obtain ⟨bx,ox,ex,BT,_⟩:=HX.out.spots 0 (by rw [<-HN.out];omega);subst ex;have c1:=(z5.out.cell (p:=⟨ba,oa+k,none⟩) hb1).trans c1;have c2:=(z5.out.cell (p:=⟨ba,oa+(k+1),none⟩) hb1).trans c2;have K7:=ab c1;have M7:=ab c2;have Ga:=ab (show ba<wr.heap.size from Nat.lt_of_lt_of_le hb1 z5.out.size);have MB:=ab (ss xs k (by have h9:=Gj.out;have:=HM.out;unfold bj at h9;rw [List.length_map] at h9;omega));have hpl:((bj xs).take k).length<=1000000:=by rw [List.length_take];omega
   obtain ⟨CP,OU⟩:=ae ((bj xs).take k);rw [hp,<-OU] at MB;rw [<-OU] at HO hpl;have MO:=ab hpl;have AD:=ab HO.out.lt;have Hc:=ab z5.out.size;have HSLI:=ab (show ∀ w',Below w.heap.size w w'->Held .i32 w' (.slice (some ⟨bx,ox+a,none⟩) (b - a) (ca - a)) (bu xs (a,b)) from fun w' h=>by
    have hs:=(HX.out.below h).spots;have hl:=fc xs (a,b) (Nat.le_of_lt hab) (by rw [<-HN.out];exact FV);have hh:=hJ (k:=.i32) (w:=w') (b:=bx) (off:=ox+a) (cap:=ca - a) (xs:=bu xs (a,b)) (Nat.lt_of_lt_of_le BT h.size) (fun i hi=>by
     rw [hl] at hi;obtain ⟨b9,o9,e9,_,h9⟩:=hs (a+i) (by rw [<-HN.out];simp only at hi;omega)
     cases e9
     rw [Nat.add_assoc,h9]
     congr 2
     unfold bu;simp only at hi
     simp [List.getD,List.getElem?_take,hi,List.getElem?_drop])
    rw [hl] at hh;exact hh)
   have HSLN:=ab (show (bu xs (a,b)).length<=1000000/\0<(bu xs (a,b)).length from by rw [fc xs (a,b) (Nat.le_of_lt hab) (by rw [<-HN.out];exact FV)];simp only;omega);have KD:=ab (AM.out.trans (z5.out.mono AM.out.size));have MX:ca - a≠0:=by omega
   have hac2:((ca - a == 0)=false):=by rw [beq_eq_false_iff_ne];exact MX
   have hz1:a<=b:=by omega
   have hz2:b<=ca:=by omega
   have hz3:(a:Int)<=b:=by omega
   have hz4:(b:Int)<=ca:=by omega
   have hne:ca≠a:=by omega
   have hkm:k<m+1:=by omega
   have hkm1:k+1<m+1:=by omega
   have KF:IntKind.i64.wrap ((k:Int)+1)=(k:Int)+1:=by rw [IntKind.wrap_i64];omega
   have hkmi:(k:Int)<(m:Int)+1:=by omega
   have hkmj:(k:Int)+1<(m:Int)+1:=by omega
   clear hp OU hpl ha hb BT hb1 hmx;go_wp2;obtain ⟨An,BW⟩ : ∃ EE:Nat->Value->World->Prop,EE=fun jj xx ww=>match jj with
     | 0=>xx=ov
     | 1=>(fun x w'=>∃ g9,x=.slice (some ⟨g9,0,none⟩) 0 0/\w'.ownsRow wr.heap.size 21 1 (.slice (some ⟨g9,0,none⟩) 0 0) 0 []) xx ww
     | 2=>xx=.slice (some ⟨bx,ox,none⟩) n ca
     | 3=>xx=.slice (some ⟨ba,oa,none⟩) (m+1) cc
     | 4=>xx=.int .i64 (k:Int)
     | 5=>xx=.pointer (some ⟨ba,oa+k,none⟩)
     | 6=>xx=.int .i64 (a:Int)
     | 7=>xx=.slice (some ⟨ba,oa,none⟩) (m+1) cc
     | 8=>xx=.int .i64 (k:Int)
     | 9=>xx=.int .i64 (k+1:Int)
     | 10=>xx=.pointer (some ⟨ba,oa+(k+1),none⟩)
     | 11=>xx=.int .i64 (b:Int)
     | 12=>xx=.slice (some ⟨bx,ox+a,none⟩) (b - a) (ca - a)
     | 13=>(fun x w'=>HeldE (aE .i32) (fun b=>wr.heap.size<=b) w' x (bu xs (a,b))) xx ww
     | 14=>(fun x w'=>HeldE rowE (fun b=>wr.heap.size<=b) w' x [bu xs (a,b)]) xx ww
     | 15=>(fun x w'=>OwnE rowE (fun b=>w2.heap.size<=b) w' w2.heap.size 27 x (CP++[bu xs (a,b)])) xx ww
     | 16=>(fun x w'=>OwnE rowE (fun b=>w2.heap.size<=b) w' w2.heap.size 27 x (CP++[bu xs (a,b)])) xx ww
     | _=>True:=⟨_,rfl⟩
   have erg0:∀ xx ww,An 0 xx ww=(xx=ov):=fun xx ww=>congrFun (congrFun (congrFun BW 0) xx) ww
   have erg1:∀ xx ww,An 1 xx ww=((fun x w'=>∃ g9,x=.slice (some ⟨g9,0,none⟩) 0 0/\w'.ownsRow wr.heap.size 21 1 (.slice (some ⟨g9,0,none⟩) 0 0) 0 []) xx ww):=fun xx ww=>congrFun (congrFun (congrFun BW 1) xx) ww
   have erg2:∀ xx ww,An 2 xx ww=(xx=.slice (some ⟨bx,ox,none⟩) n ca):=fun xx ww=>congrFun (congrFun (congrFun BW 2) xx) ww
   have erg3:∀ xx ww,An 3 xx ww=(xx=.slice (some ⟨ba,oa,none⟩) (m+1) cc):=fun xx ww=>congrFun (congrFun (congrFun BW 3) xx) ww
   have erg4:∀ xx ww,An 4 xx ww=(xx=.int .i64 (k:Int)):=fun xx ww=>congrFun (congrFun (congrFun BW 4) xx) ww
   have erg5:∀ xx ww,An 5 xx ww=(xx=.pointer (some ⟨ba,oa+k,none⟩)):=fun xx ww=>congrFun (congrFun (congrFun BW 5) xx) ww
   have erg6:∀ xx ww,An 6 xx ww=(xx=.int .i64 (a:Int)):=fun xx ww=>congrFun (congrFun (congrFun BW 6) xx) ww
   have erg7:∀ xx ww,An 7 xx ww=(xx=.slice (some ⟨ba,oa,none⟩) (m+1) cc):=fun xx ww=>congrFun (congrFun (congrFun BW 7) xx) ww
   have erg8:∀ xx ww,An 8 xx ww=(xx=.int .i64 (k:Int)):=fun xx ww=>congrFun (congrFun (congrFun BW 8) xx) ww
   have erg9:∀ xx ww,An 9 xx ww=(xx=.int .i64 (k+1:Int)):=fun xx ww=>congrFun (congrFun (congrFun BW 9) xx) ww
   have erg10:∀ xx ww,An 10 xx ww=(xx=.pointer (some ⟨ba,oa+(k+1),none⟩)):=fun xx ww=>congrFun (congrFun (congrFun BW 10) xx) ww
   have erg11:∀ xx ww,An 11 xx ww=(xx=.int .i64 (b:Int)):=fun xx ww=>congrFun (congrFun (congrFun BW 11) xx) ww
   have erg12:∀ xx ww,An 12 xx ww=(xx=.slice (some ⟨bx,ox+a,none⟩) (b - a) (ca - a)):=fun xx ww=>congrFun (congrFun (congrFun BW 12) xx) ww
   have erg13:∀ xx ww,An 13 xx ww=((fun x w'=>HeldE (aE .i32) (fun b=>wr.heap.size<=b) w' x (bu xs (a,b))) xx ww):=fun xx ww=>congrFun (congrFun (congrFun BW 13) xx) ww
   have erg14:∀ xx ww,An 14 xx ww=((fun x w'=>HeldE rowE (fun b=>wr.heap.size<=b) w' x [bu xs (a,b)]) xx ww):=fun xx ww=>congrFun (congrFun (congrFun BW 14) xx) ww
   have erg15:∀ xx ww,An 15 xx ww=((fun x w'=>OwnE rowE (fun b=>w2.heap.size<=b) w' w2.heap.size 27 x (CP++[bu xs (a,b)])) xx ww):=fun xx ww=>congrFun (congrFun (congrFun BW 15) xx) ww
   have erg16:∀ xx ww,An 16 xx ww=((fun x w'=>OwnE rowE (fun b=>w2.heap.size<=b) w' w2.heap.size 27 x (CP++[bu xs (a,b)])) xx ww):=fun xx ww=>congrFun (congrFun (congrFun BW 16) xx) ww
   obtain ⟨zM,zU⟩ : ∃ CC:Array Bool->World->Prop,CC=fun L8 w'=>Below w2.heap.size w2 w'/\(Mix.one L8 15=0->OwnE rowE (fun b=>w2.heap.size<=b) w' w2.heap.size 27 ov CP/\Below wr.heap.size wr w')/\wr.heap.size<=w'.heap.size:=⟨_,rfl⟩
   have krg:∀ i L w,i≠15 ->  zM L w->zM (L.setIfInBounds i true) w:=by
    intro i L w q15 h;rw [zU] at h ⊢;simp only [Mix.one_ne q15];exact h
   obtain ⟨Ar,z6⟩ : ∃ XX:Nat->World->World->Prop,XX=fun kk ww1 ww2=>if kk=15 then (fun x y=>Upd (fun b=>ov.ownBlock=some b) x y) ww1 ww2 else (fun x y=>Below x.heap.size x y) ww1 ww2:=⟨_,rfl⟩
   have xrg:∀ {k:Nat} (w:World),Ar k w w:=by
    intro k w;rw [z6];show if k=15 then _ else _
    split
    ·exact Upd.refl _ _
    ·exact Below.refl _ _
   have crg:zM (Array.replicate 17 false) wr.drew:=by rw [zU];exact ⟨z5.out.drew,fun _=>⟨HO.out,(Below.refl _ _).drew⟩,Nat.le_refl _⟩
   have brg:∀ L w w1,zM L w->Below w.heap.size w w1->zM L w1:=by
    intro L w w1 h hb;rw [zU] at h ⊢
    (obtain ⟨q1,q2,q3⟩:=h;exact ⟨q1.trans (hb.mono q1.size),fun e=>⟨(q2 e).1.below hb,(q2 e).2.trans (hb.mono (q2 e).2.size)⟩,Nat.le_trans q3 hb.size⟩)
   have xbrg:∀ {k:Nat} (w w1:World),Below w.heap.size w w1->Ar k w w1:=by
    intro k w w1 hb;rw [z6];show if k=15 then _ else _
    split
    ·exact Upd.ofBelow hb
    ·exact hb
   have Al:=ab brg;have Ab:Hid (∀ {k:Nat} (w w1:World),Below w.heap.size w w1->Ar k w w1):=@xbrg;clear brg xbrg;have JF:=ab BW;clear BW;have zZ:=ab krg;have Ac:Hid (∀ {k:Nat} (w:World),Ar k w w):=@xrg;have Ao:=ab crg;have zK:=ab zU;have z8:=ab z6;have zQ:=ab erg0;have zR:=ab erg1;have zT:=ab erg2;have zS:=ab erg3;have zX:=ab erg4;have zY:=ab erg5;have zW:=ab erg6;have zP:=ab erg7;have zV:=ab erg8;have z4:=ab erg9;have zO:=ab erg10;have z7:=ab erg11;have Aa:=ab erg12;have z9:=ab erg13;have Af:=ab erg14;have Ae:=ab erg15;have Ai:=ab erg16;clear krg xrg crg zU z6 erg0 erg1 erg2 erg3 erg4 erg5 erg6 erg7 erg8 erg9 erg10 erg11 erg12 erg13 erg14 erg15 erg16
   go_wp2_with fail
   refine RegX.regionF An zM Ar ?_ (by kernel_rfl) (by kernel_rfl) (by kernel_rfl) Ao.out (fun Gq zJ=>?_)
   ·intro ii jj x w w1 Ey hr hx h;rw [z8.out] at hx
    by_cases hi:ii=15
    ·subst hi;simp only [if_pos] at hx
     match jj with
     | 0=>rw [zQ.out] at h ⊢;exact h
     | 1=>rw [zR.out] at h ⊢;(first | exact (HeldE.upd h hx (fun b hb e=>by have:=(AD.out b e).2;omega)) | (obtain ⟨g9,e9,h9⟩:=h;exact ⟨g9,e9,hx.keep.own h9 (fun b hb e=>by have:=(AD.out _ e).2;have:=(h9.lt _ hb).1;omega)⟩))
     | 2=>rw [zT.out] at h ⊢;exact h
     | 3=>rw [zS.out] at h ⊢;exact h
     | 4=>rw [zX.out] at h ⊢;exact h
     | 5=>rw [zY.out] at h ⊢;exact h
     | 6=>rw [zW.out] at h ⊢;exact h
     | 7=>rw [zP.out] at h ⊢;exact h
     | 8=>rw [zV.out] at h ⊢;exact h
     | 9=>rw [z4.out] at h ⊢;exact h
     | 10=>rw [zO.out] at h ⊢;exact h
     | 11=>rw [z7.out] at h ⊢;exact h
     | 12=>rw [Aa.out] at h ⊢;exact h
     | 13=>rw [z9.out] at h ⊢;(first | exact (HeldE.upd h hx (fun b hb e=>by have:=(AD.out b e).2;omega)) | (obtain ⟨g9,e9,h9⟩:=h;exact ⟨g9,e9,hx.keep.own h9 (fun b hb e=>by have:=(AD.out _ e).2;have:=(h9.lt _ hb).1;omega)⟩))
     | 14=>rw [Af.out] at h ⊢;(first | exact (HeldE.upd h hx (fun b hb e=>by have:=(AD.out b e).2;omega)) | (obtain ⟨g9,e9,h9⟩:=h;exact ⟨g9,e9,hx.keep.own h9 (fun b hb e=>by have:=(AD.out _ e).2;have:=(h9.lt _ hb).1;omega)⟩))
     | 15=>exact absurd rfl Ey
     | 16=>exact absurd (hr.symm.trans (show Reg.reach _ 6 16 15=true from by kernel_rfl)) (by decide)
     | jj+17=>rw [JF.out];trivial
    ·simp only [if_neg hi] at hx
     match jj with
     | 0=>rw [zQ.out] at h ⊢;exact h
     | 1=>rw [zR.out] at h ⊢;(first | exact HeldE.below h hx | exact OwnE.below h hx | (obtain ⟨g9,e9,h9⟩:=h;exact ⟨g9,e9,aN h9 hx⟩))
     | 2=>rw [zT.out] at h ⊢;exact h
     | 3=>rw [zS.out] at h ⊢;exact h
     | 4=>rw [zX.out] at h ⊢;exact h
     | 5=>rw [zY.out] at h ⊢;exact h
     | 6=>rw [zW.out] at h ⊢;exact h
     | 7=>rw [zP.out] at h ⊢;exact h
     | 8=>rw [zV.out] at h ⊢;exact h
     | 9=>rw [z4.out] at h ⊢;exact h
     | 10=>rw [zO.out] at h ⊢;exact h
     | 11=>rw [z7.out] at h ⊢;exact h
     | 12=>rw [Aa.out] at h ⊢;exact h
     | 13=>rw [z9.out] at h ⊢;(first | exact HeldE.below h hx | exact OwnE.below h hx | (obtain ⟨g9,e9,h9⟩:=h;exact ⟨g9,e9,aN h9 hx⟩))
     | 14=>rw [Af.out] at h ⊢;(first | exact HeldE.below h hx | exact OwnE.below h hx | (obtain ⟨g9,e9,h9⟩:=h;exact ⟨g9,e9,aN h9 hx⟩))
     | 15=>rw [Ae.out] at h ⊢;(first | exact HeldE.below h hx | exact OwnE.below h hx | (obtain ⟨g9,e9,h9⟩:=h;exact ⟨g9,e9,aN h9 hx⟩))
     | 16=>rw [Ai.out] at h ⊢;(first | exact HeldE.below h hx | exact OwnE.below h hx | (obtain ⟨g9,e9,h9⟩:=h;exact ⟨g9,e9,aN h9 hx⟩))
     | jj+17=>rw [JF.out];trivial
   simp only [Reg.frame,Reg.dsts,List.map_cons,List.map_nil,Mix.put_lit,List.set_cons_succ,List.set_cons_zero,Nat.zero_add,Nat.reduceAdd] at zJ;refine ⟨?_,?_⟩
   ·refine ⟨?_,?_,?_,?_,?_,?_,?_,?_,?_,?_,?_,?_,?_,?_,?_,?_,?_,trivial⟩
    ·intro Lq wq xq hh;have d16:=hh.old 16 (by kernel_rfl);simp only [zJ,d16];clear d16;refine .inl ⟨rfl,?_⟩;unfold Reg.upon;have hk:=zZ.out 0 Lq wq (by decide)  hh.cls;have hx:Ar 0 wq wq:=Ac.out wq;have he:An 0 (ov) wq:=by rw [zQ.out]
     have HK:=ab (And.intro hk (And.intro he hx));clear hk hx he;go_simp;exact HK.out
    ·intro Lq wq xq hh;simp only [zJ];refine .inl ⟨rfl,?_⟩;unfold Reg.upon;go_simp;have hc:zM Lq wq:=hh.cls;rw [zK.out] at hc;have hb1:=zI wq (.cells #[] 21);refine ⟨zZ.out 1 Lq _ (by decide) (Al.out Lq wq _ hh.cls hb1),?_,Ab.out wq _ hb1⟩;rw [zR.out];exact ⟨_,rfl,World.ownsRow_lit wq #[] 0 hc.2.2 (by decide) rfl⟩
    ·intro Lq wq xq hh;simp only [zJ];refine .inl ⟨rfl,?_⟩;unfold Reg.upon;have hk:=zZ.out 2 Lq wq (by decide)  hh.cls;have hx:Ar 2 wq wq:=Ac.out wq;have he:An 2 (.slice (some ⟨bx,ox,none⟩) n ca) wq:=by rw [zT.out]
     have HK:=ab (And.intro hk (And.intro he hx));clear hk hx he;go_simp;exact HK.out
    ·intro Lq wq xq hh;simp only [zJ];refine .inl ⟨rfl,?_⟩;unfold Reg.upon;have hk:=zZ.out 3 Lq wq (by decide)  hh.cls;have hx:Ar 3 wq wq:=Ac.out wq;have he:An 3 (.slice (some ⟨ba,oa,none⟩) (m+1) cc) wq:=by rw [zS.out]
     have HK:=ab (And.intro hk (And.intro he hx));clear hk hx he;go_simp;exact HK.out
    ·intro Lq wq xq hh;simp only [zJ];refine .inl ⟨rfl,?_⟩;unfold Reg.upon;have hk:=zZ.out 4 Lq wq (by decide)  hh.cls;have hx:Ar 4 wq wq:=Ac.out wq;have he:An 4 (.int .i64 (k:Int)) wq:=by rw [zX.out]
     have HK:=ab (And.intro hk (And.intro he hx));clear hk hx he;go_simp;exact HK.out
    ·intro Lq wq xq hh;have d3:An 3 (xq 3) wq:=hh.val 3 (by kernel_rfl) (by kernel_rfl);rw [zS.out] at d3;have d4:An 4 (xq 4) wq:=hh.val 4 (by kernel_rfl) (by kernel_rfl);rw [zX.out] at d4;simp only [zJ,d3,d4];clear d3 d4;refine .inl ⟨rfl,?_⟩;unfold Reg.upon;have hk:=zZ.out 5 Lq wq (by decide)  hh.cls;have hx:Ar 5 wq wq:=Ac.out wq;have he:An 5 (.pointer (some ⟨ba,oa+k,none⟩)) wq:=by rw [zY.out]
     have HK:=ab (And.intro hk (And.intro he hx));clear hk hx he;go_simp;exact HK.out
    ·intro Lq wq xq hh;have d5:An 5 (xq 5) wq:=hh.val 5 (by kernel_rfl) (by kernel_rfl);rw [zY.out] at d5;simp only [zJ,d5];clear d5;refine .inl ⟨rfl,?_⟩;unfold Reg.upon;have hc:zM Lq wq:=hh.cls;rw [zK.out] at hc;have q1:=((hc.2.1 (Mix.one_un (hh.notYet 15 (by kernel_rfl)))).2.cell (p:=⟨ba,oa+k,none⟩) Ga.out).trans K7.out;clear hc;have hk:=zZ.out 6 Lq wq (by decide)  hh.cls;have hx:Ar 6 wq wq:=Ac.out wq;have he:An 6 (.int .i64 (a:Int)) wq:=by rw [zW.out]
     have HK:=ab (And.intro hk (And.intro he hx));clear hk hx he;go_simp;exact HK.out
    ·intro Lq wq xq hh;simp only [zJ];refine .inl ⟨rfl,?_⟩;unfold Reg.upon;have hk:=zZ.out 7 Lq wq (by decide)  hh.cls;have hx:Ar 7 wq wq:=Ac.out wq;have he:An 7 (.slice (some ⟨ba,oa,none⟩) (m+1) cc) wq:=by rw [zP.out]
     have HK:=ab (And.intro hk (And.intro he hx));clear hk hx he;go_simp;exact HK.out
    ·intro Lq wq xq hh;simp only [zJ];refine .inl ⟨rfl,?_⟩;unfold Reg.upon;have hk:=zZ.out 8 Lq wq (by decide)  hh.cls;have hx:Ar 8 wq wq:=Ac.out wq;have he:An 8 (.int .i64 (k:Int)) wq:=by rw [zV.out]
     have HK:=ab (And.intro hk (And.intro he hx));clear hk hx he;go_simp;exact HK.out
    ·intro Lq wq xq hh;have d8:An 8 (xq 8) wq:=hh.val 8 (by kernel_rfl) (by kernel_rfl);rw [zV.out] at d8;simp only [zJ,d8];clear d8;refine .inl ⟨rfl,?_⟩;unfold Reg.upon;go_simp
     try rw [KF]
     exact ⟨zZ.out 9 Lq wq (by decide) hh.cls,(by rw [z4.out]),Ac.out _⟩
    ·intro Lq wq xq hh;have d7:An 7 (xq 7) wq:=hh.val 7 (by kernel_rfl) (by kernel_rfl);rw [zP.out] at d7;have d9:An 9 (xq 9) wq:=hh.val 9 (by kernel_rfl) (by kernel_rfl);rw [z4.out] at d9;simp only [zJ,d7,d9];clear d7 d9;refine .inl ⟨rfl,?_⟩;unfold Reg.upon;have hk:=zZ.out 10 Lq wq (by decide)  hh.cls;have hx:Ar 10 wq wq:=Ac.out wq;have he:An 10 (.pointer (some ⟨ba,oa+(k+1),none⟩)) wq:=by rw [zO.out]
     have HK:=ab (And.intro hk (And.intro he hx));clear hk hx he;go_simp;exact HK.out
    ·intro Lq wq xq hh;have d10:An 10 (xq 10) wq:=hh.val 10 (by kernel_rfl) (by kernel_rfl);rw [zO.out] at d10;simp only [zJ,d10];clear d10;refine .inl ⟨rfl,?_⟩;unfold Reg.upon;have hc:zM Lq wq:=hh.cls;rw [zK.out] at hc;have q2:=((hc.2.1 (Mix.one_un (hh.notYet 15 (by kernel_rfl)))).2.cell (p:=⟨ba,oa+(k+1),none⟩) Ga.out).trans M7.out;clear hc;have hk:=zZ.out 11 Lq wq (by decide)  hh.cls;have hx:Ar 11 wq wq:=Ac.out wq;have he:An 11 (.int .i64 (b:Int)) wq:=by rw [z7.out]
     have HK:=ab (And.intro hk (And.intro he hx));clear hk hx he;go_simp;exact HK.out
    ·intro Lq wq xq hh;have d2:An 2 (xq 2) wq:=hh.val 2 (by kernel_rfl) (by kernel_rfl);rw [zT.out] at d2;have d6:An 6 (xq 6) wq:=hh.val 6 (by kernel_rfl) (by kernel_rfl);rw [zW.out] at d6;have d11:An 11 (xq 11) wq:=hh.val 11 (by kernel_rfl) (by kernel_rfl);rw [z7.out] at d11;simp only [zJ,d2,d6,d11];clear d2 d6 d11;refine .inl ⟨rfl,?_⟩;unfold Reg.upon;have hk:=zZ.out 12 Lq wq (by decide)  hh.cls;have hx:Ar 12 wq wq:=Ac.out wq;have he:An 12 (.slice (some ⟨bx,ox+a,none⟩) (b - a) (ca - a)) wq:=by rw [Aa.out]
     have HK:=ab (And.intro hk (And.intro he hx));clear hk hx he;go_simp;exact HK.out
    ·intro Lq wq xq hh;have d1:An 1 (xq 1) wq:=hh.val 1 (by kernel_rfl) (by kernel_rfl);rw [zR.out] at d1;have d12:An 12 (xq 12) wq:=hh.val 12 (by kernel_rfl) (by kernel_rfl);rw [Aa.out] at d12;simp only [zJ,d12];clear d12;refine .inl ⟨rfl,?_⟩;unfold Reg.upon;obtain ⟨g9,e9,h9⟩:=d1;have hc:zM Lq wq:=hh.cls;rw [zK.out] at hc;have hw:=KD.out.trans ((hc.2.1 (Mix.one_un (hh.notYet 15 (by kernel_rfl)))).2.mono KD.out.size);rw [e9];obtain ⟨v',w',hr,h2,hb1⟩:=sS wq _ 27 g9 h9 _ (bu xs (a,b)) (HSLI.out wq hw) HSLN.out.2 HSLN.out.1 hc.2.2;rw [kX rfl rfl rfl hr];refine ⟨zZ.out 13 Lq _ (by decide) (Al.out Lq wq _ hh.cls hb1),?_,Ab.out wq _ hb1⟩;rw [z9.out];exact (dH (Z:=fun b=>wr.heap.size<=b) h2).held (fun b h _=>h)
    ·intro Lq wq xq hh;have d13:An 13 (xq 13) wq:=hh.val 13 (by kernel_rfl) (by kernel_rfl);rw [z9.out] at d13;simp only [zJ];refine .inl ⟨rfl,?_⟩;unfold Reg.upon;have hc:zM Lq wq:=hh.cls;rw [zK.out] at hc;obtain ⟨a3,c3,e3⟩:=d13.len;have hb:=zI wq (.cells [xq 13].toArray 27);have Cv:HeldE rowE (fun b=>wr.heap.size<=b) (wq.alloc (.cells [xq 13].toArray 27)) (.slice (some ⟨wq.heap.size,0,none⟩) 1 1) [bu xs (a,b)]:=aO (Y:=fun b=>wr.heap.size<=b) [xq 13] _ ⟨_,rfl,d13⟩ (fun b _ h=>h) hc.2.2;rw [e3] at hb Cv ⊢;go_simp;refine ⟨zZ.out 14 Lq _ (by decide) (Al.out Lq wq _ hh.cls hb),?_,Ab.out wq _ hb⟩;rw [Af.out];exact Cv
    ·intro Lq wq xq hh;have d0:An 0 (xq 0) wq:=hh.val 0 (by kernel_rfl) (by kernel_rfl);rw [zQ.out] at d0;have d14:An 14 (xq 14) wq:=hh.val 14 (by kernel_rfl) (by kernel_rfl);rw [Af.out] at d14;simp only [zJ,d0];clear d0;refine .inl ⟨rfl,?_⟩;unfold Reg.upon;have hc:zM Lq wq:=hh.cls;rw [zK.out] at hc;have hc4:=hc.2.1 hh.un;obtain ⟨v',w',hr,h1,h2,h3,h4⟩:=i5 (P:=Tryz.prog) (E:=rowE) (Z:=fun b=>w2.heap.size<=b) (w:=wq) (B:=w2.heap.size) (ty:=27) 159 _ (.slice none 0 0) 24 Tryz.underlying159 xM rfl (by decide) hc4.1 (d14.zoned (Y:=fun b=>w2.heap.size<=b/\ov.ownBlock≠some b) (fun b _ hz=>⟨Nat.le_trans Hc.out hz,fun e=>by have:=(AD.out b e).2;omega⟩)) (by simp only [List.length_singleton];have:=MO.out;omega) (by simp only [List.length_singleton];have:=MO.out;omega) (Nat.le_trans Hc.out hc.2.2);rw [kX rfl rfl rfl hr];have hu:Upd (fun b=>ov.ownBlock=some b) wq w':=⟨h2.os,h2.tape,h2.output,h3.size,fun b hb hn=>h3.block b hb hn⟩;refine ⟨?_,?_,?_⟩
     ·rw [zK.out];refine ⟨hc.1.trans h2,fun e=>?_,Nat.le_trans hc.2.2 h2.size⟩;rw [Mix.one_set (by rw [hh.size];decide)] at e;exact absurd e (by decide)
     ·rw [Ae.out];exact h1
     ·rw [z8.out];exact hu
    ·intro Lq wq xq hh;have d15:An 15 (xq 15) wq:=hh.val 15 (by kernel_rfl) (by kernel_rfl);rw [Ae.out] at d15;simp only [zJ];refine .inl ⟨rfl,?_⟩;unfold Reg.upon;go_simp;exact ⟨zZ.out 16 Lq wq (by decide) hh.cls,(by rw [Ai.out];exact d15),Ac.out _⟩
   intro xq Dj Ah Av;rw [zK.out] at Ah;simp only [zJ];have vrg16:An 16 (xq 16) Dj:=Av 16 (by decide);rw [Ai.out] at vrg16;clear Av zJ zZ Ac JF Ao zK z8 Al Ab zQ zR zT zS zX zY zW zP zV z4 zO z7 Aa z9 Af Ae Ai;have HF:=ab (show OwnE rowE (fun b=>w2.heap.size<=b) Dj w2.heap.size 27 (xq 16) ((bj xs).take (k+1)) from by rw [MB.out];exact vrg16);have HB:=ab Ah.1;clear Ah vrg16;go_wp2
   go_roundw
   case rel=>exact ⟨k+1,by omega,by go_num,HF.out,HB.out⟩
   case measure=>simp [intOf] <;> omega
  ·obtain rfl:k=m:=by omega
   have HF:=ab (show rI w (bj xs) (.returned ov) wr from by
    have h:=HO.out;rw [List.take_of_length_le (by rw [Gj.out,<-HM.out];exact Nat.le_refl _)] at h;exact ⟨ov,rfl,(h.base AM.out.size).keep (Y:=fun b=>w.heap.size<=b) (.refl _ _) (fun b _ hz=>Nat.le_trans AM.out.size hz),AM.out.trans (z5.out.mono AM.out.size)⟩)
   go_wp2;go_ret;exact HF.out
def kW(A B:List (Int × Int)):Bool:=A.all fun p=>B.all fun q=>decide (p.2<q.1) || decide (q.2<p.1)
theorem gZ{A B:List (Int × Int)}(h:kW A B=true){r:Int}(ha:aL A r=true):aL B r=false:=by
 cases hb:aL B r with
 | false=>rfl
 | true =>
  obtain ⟨p,hp,h1⟩:=List.any_eq_true.1 ha;obtain ⟨q,hq,h2⟩:=List.any_eq_true.1 hb;have h3:=List.all_eq_true.1 (List.all_eq_true.1 h p hp) q hq
  simp at h1 h2 h3
  omega
theorem sm:kW tControl tPict=true:=by decide +kernel
theorem sn:kW tControl tCons=true:=by decide +kernel
theorem sq:kW tControl tLink=true:=by decide +kernel
theorem sr:kW tControl tJoin=true:=by decide +kernel
theorem iE(r:Int):bi r=0\/9<=bi r:=by
 unfold bi
 repeat' split
 all_goals omega
theorem iF{r:Int}(h:1<=bQ r/\bQ r<=3):aL tPict r=false/\du r=0:=by
 have hc:r=13\/r=10\/aL tControl r=true:=by
  by_cases h1:r=13
  ·exact .inl h1
  by_cases h2:r=10
  ·exact .inr (.inl h2)
  right;right
  cases hi:aL tControl r with
  | true=>rfl
  | false =>
   exfalso;unfold bQ bm at h;rw [if_neg h1,if_neg h2,hi] at h;simp only [Bool.false_eq_true,if_false] at h;have DG:=iE r
   repeat' split at h
   all_goals omega
 rcases hc with rfl | rfl | hc
 ·exact ⟨by decide +kernel,by decide +kernel⟩
 ·exact ⟨by decide +kernel,by decide +kernel⟩
 ·refine ⟨gZ sm hc,?_⟩;unfold du;rw [gZ sn hc,gZ sq hc,gZ sr hc]
  rfl
theorem jM{xs ys:List Pr}:∀ k,(∀ i,i<k->xs.getD i Pr.none=ys.getD i Pr.none)->cSt xs k=cSt ys k/\pSt xs k=pSt ys k/\oSt xs k=oSt ys k/\lSt xs k=lSt ys k
 | 0,_=>⟨rfl,rfl,rfl,rfl⟩
 | k+1,h=>by
  obtain ⟨h1,h2,h3,_⟩:=jM k fun i hi=>h i (by omega)
  have h5:=h k (by omega);simp only [cSt,pSt,oSt,lSt];rw [h1,h2,h3,h5];exact ⟨rfl,rfl,rfl,rfl⟩
theorem uB{xs ys:List Pr}(k:Nat)(h:∀ i,i<k+1->xs.getD i Pr.none=ys.getD i Pr.none):jR xs k=jR ys k:=by
 obtain ⟨h1,h2,h3,h4⟩:=jM k fun i hi=>h i (by omega)
 rw [lq,lq,h1,h2,h3,h4,h k (by omega)]
theorem fW(a b:List Int)(i:Nat)(h:i<a.length):(aq (a++b)).getD i Pr.none=(aq a).getD i Pr.none:=by
 unfold aq;rw [List.map_append]
 simp [List.getD,List.getElem?_append_left (show i<(a.map bh).length by simpa using h)]
theorem oF(a b:List Int)(i:Nat):(aq (a++b)).getD (a.length+i) Pr.none=(aq b).getD i Pr.none:=by
 unfold aq;rw [List.map_append,List.getD,List.getElem?_append_right (by simp)]
 simp [List.getD]
section
theorem gH{r:Int}(h:bL r=true):1<=bQ r/\bQ r<=3:=by
 have hk:∀ n:Fin 160,bL ((n.1:Nat):Int)=true->1<=bQ ((n.1:Nat):Int)/\bQ ((n.1:Nat):Int)<=3:=by decide +kernel
 have hr:0<=r/\r<160:=by
  unfold bL at h
  simp at h
  omega
 have:=hk ⟨r.toNat,by omega⟩;simp only [Int.toNat_of_nonneg hr.1] at this;exact this h
theorem mr(r:Int):bm r≠1/\bm r≠2:=by
 unfold bm
 repeat' split
 all_goals omega
theorem xK{r:Int}(h:bL r=false):bQ r≠1/\bQ r≠2:=by
 have h1:r≠13:=by rintro rfl;exact absurd h (by decide)
 have h2:r≠10:=by rintro rfl;exact absurd h (by decide)
 have hl:=mr r;have hc:=iE r;unfold bQ;rw [if_neg h1,if_neg h2]
 repeat' split
 all_goals omega
theorem sj{a b:Int}(h:1<=a/\a<=3):cl a b=(if a=1/\clI b=2 then 1 else 0):=by
 unfold cl;have ha:clI a=a:=by unfold clI;split <;> omega
 rw [ha];unfold cF
 by_cases e:a=1/\clI b=2
 ·rw [if_pos e,if_pos e]
 ·have hb:brB a=true:=by unfold brB;simp;omega
  rw [if_neg e,if_neg e,if_pos (.inl hb)]
theorem eh(xs:List Int):xs=[]\/∃ ys r,xs=ys++[r]:=by
 rcases List.eq_nil_or_concat xs with h | ⟨ys,r,h⟩
 ·exact .inl h
 ·exact .inr ⟨ys,r,by rw [h,List.concat_eq_append]⟩
theorem cl_two{b:Int}:clI b=2↔b=2:=by unfold clI;split <;> omega
section
variable {α : Type}
theorem kf(T S:List α)(p:Nat × Nat)(h1:p.1<=p.2)(h2:p.2<=T.length):bu (T++S) p=bu T p:=by
 unfold bu;rw [List.drop_append_of_le_length (by omega),List.take_append_of_le_length (by rw [List.length_drop];omega)]
theorem qp(T:List α)(x:α)(a:Nat)(h:a<=T.length):bu (T++[x]) (a,T.length+1)=bu T (a,T.length)++[x]:=by
 unfold bu;rw [List.drop_append_of_le_length h,List.take_of_length_le (by rw [List.length_append,List.length_drop,List.length_singleton];simp only;omega),List.take_of_length_le (by rw [List.length_drop];exact Nat.le_refl _)]
end
def dt(xs:List Int):List (List Int):=(dX (jR (aq xs)) xs.length).map (bu xs)
def aU(xs:List Int):List Int:=bu xs (eK (jR (aq xs)) xs.length,xs.length)
theorem gY{xs:List Int}(h:xs≠[]):bj xs=dt xs++[aU xs]:=by
 have hn:xs.length≠0:=fun e=>h (List.length_eq_zero_iff.1 e)
 unfold bj clS fb dt aU;rw [if_neg hn,List.map_append]
 rfl
def dw(xs:List Int)(r:Int):Bool:=jR (aq (xs++[r])) xs.length
theorem jJ(r:Int):dw [] r=false:=kK _
theorem ms(xs:List Int)(r:Int):dX (jR (aq (xs++[r]))) xs.length=dX (jR (aq xs)) xs.length/\eK (jR (aq (xs++[r]))) xs.length=eK (jR (aq xs)) xs.length :=
 kh _ _ _ fun i hi=>uB i fun k hk=>fW xs [r] k (by omega)
theorem mt(xs:List Int)(r:Int):(dX (jR (aq xs)) xs.length).map (bu (xs++[r]))=dt xs:=by
 unfold dt
 apply List.map_congr_left
 intro p hp;have:=i8 _ _ p hp;exact kf _ _ _ (by omega) (by omega)
theorem fH{xs:List Int}{r:Int}(h:dw xs r=true):dt (xs++[r])=dt xs/\aU (xs++[r])=aU xs++[r]:=by
 obtain ⟨h1,h2⟩:=ms xs r;have hl:(xs++[r]).length=xs.length+1:=by simp
 constructor
 ·rw [<-mt xs r]
  conv=>lhs;unfold dt
  rw [hl,ej,if_pos (.inl h),h1]
 ·conv=>lhs;unfold aU
  rw [hl,ei,if_pos (.inl h),h2,qp _ _ _ (oJ _ _)]
  rfl
theorem eZ{xs:List Int}{r:Int}(h:dw xs r=false):dt (xs++[r])=bj xs/\aU (xs++[r])=[r]:=by
 obtain ⟨h1,h2⟩:=ms xs r;have hl:(xs++[r]).length=xs.length+1:=by simp
 have hj:¬ jR (aq (xs++[r])) xs.length=true:=by
  have h:jR (aq (xs++[r])) xs.length=false:=h;rw [h];decide
 by_cases h0:xs=[]
 ·subst h0;exact ⟨rfl,rfl⟩
 ·have hn:xs.length≠0:=fun e=>h0 (List.length_eq_zero_iff.1 e)
  have hno:¬ (jR (aq (xs++[r])) xs.length=true\/xs.length=0):=fun e=>e.elim hj hn
  constructor
  ·conv=>lhs;unfold dt
   rw [hl,ej,if_neg hno,List.map_append,h1,mt,h2,gY h0]
   congr 1
   show [bu (xs++[r]) (eK (jR (aq xs)) xs.length,xs.length)]=[aU xs];rw [kf _ _ _ (oJ _ _) (Nat.le_refl _)]
   rfl
  ·conv=>lhs;unfold aU
   rw [hl,ei,if_neg hno];unfold bu
   simp
theorem rH(xs:List Int)(r:Int):xs++[r]≠[]:=by simp
def bT(xs:List Int):Bool:=match xs.getLast? with | none=>false | some r=>!bL r
theorem cI(xs:List Int)(r:Int):bT (xs++[r]) = !bL r:=by unfold bT;rw [List.getLast?_concat]
def oC(xs:List Int):Bool:=bT xs
def oD(xs:List Int):Int:=if bT xs=true then lSt (aq xs) xs.length else 0
def kD(xs:List Int):Int:=if bT xs=true then cSt (aq xs) xs.length else 0
def kE(xs:List Int):Int:=if bT xs=true then pSt (aq xs) xs.length else 0
def lZ(xs:List Int):Bool:=if bT xs=true then oSt (aq xs) xs.length else false
theorem iY(xs:List Int)(r:Int):cSt (aq (xs++[r])) xs.length=cSt (aq xs) xs.length/\pSt (aq (xs++[r])) xs.length=pSt (aq xs) xs.length/\oSt (aq (xs++[r])) xs.length=oSt (aq xs) xs.length/\lSt (aq (xs++[r])) xs.length=lSt (aq xs) xs.length :=
 jM xs.length fun i hi=>fW xs [r] i hi
theorem eU(xs:List Int)(r:Int):(aq (xs++[r])).getD xs.length Pr.none=bh r:=by
 have:=oF xs [r] 0;rw [Nat.add_zero] at this;rw [this]
 rfl
theorem iZ(xs:List Int)(r:Int):cSt (aq (xs++[r])) (xs++[r]).length=dg (cSt (aq xs) xs.length) (du r)/\pSt (aq (xs++[r])) (xs++[r]).length=eu (pSt (aq xs) xs.length) (bQ r) (aL tPict r)/\oSt (aq (xs++[r])) (xs++[r]).length=(bQ r == 6 && !oSt (aq xs) xs.length)/\lSt (aq (xs++[r])) (xs++[r]).length=bQ r:=by
 obtain ⟨h1,h2,h3,h4⟩:=iY xs r;have hl:(xs++[r]).length=xs.length+1:=by simp
 rw [hl];simp only [cSt,pSt,oSt,lSt];rw [h1,h2,h3,eU];exact ⟨rfl,rfl,rfl,rfl⟩
theorem mu{xs:List Int}(h:bT xs=false):cSt (aq xs) xs.length=0/\pSt (aq xs) xs.length=0/\oSt (aq xs) xs.length=false:=by
 rcases eh xs with rfl | ⟨ys,r,rfl⟩
 ·exact ⟨rfl,rfl,rfl⟩
 ·rw [cI] at h;have hs:bL r=true:=by simpa using h
  have hc:=gH hs;obtain ⟨p1,p2⟩:=iF hc;obtain ⟨h1,h2,h3,_⟩:=iZ ys r;rw [h1,h2,h3,p1,p2];refine ⟨by unfold dg;simp,?_,?_⟩
  ·unfold eu;generalize pSt (aq ys) ys.length=s;rw [if_neg (by decide)]
   by_cases e:s≠1
   ·rw [if_pos e]
   ·rw [if_neg e,if_neg (by omega),if_neg (by omega)]
  ·have:(bQ r == 6)=false:=by simp;omega
   rw [this];rfl
theorem kJ(xs:List Int):kD xs=cSt (aq xs) xs.length/\kE xs=pSt (aq xs) xs.length/\lZ xs=oSt (aq xs) xs.length:=by
 unfold kD kE lZ
 cases h:bT xs with
 | true=>exact ⟨rfl,rfl,rfl⟩
 | false =>
  obtain ⟨h1,h2,h3⟩:=mu h;rw [h1,h2,h3];exact ⟨rfl,rfl,rfl⟩
theorem jK{xs:List Int}{r:Int}(hr:bL r=false)(ho:bT xs=false):dw xs r=false:=by
 rcases eh xs with rfl | ⟨ys,q,rfl⟩
 ·exact jJ r
 ·have hq:bL q=true:=by rw [cI] at ho;simpa using ho
  obtain ⟨h1,h2,h3⟩:=mu ho;obtain ⟨k1,k2,k3,k4⟩:=iY (ys++[q]) r;unfold dw;rw [lq,k1,k2,k3,k4,h1,h2,h3,eU,(iZ ys q).2.2.2];have hj:cl (bQ q) (bQ r)≠1:=by
   rw [sj (gH hq)];have:=(xK hr).2;rw [if_neg (fun e=>this (cl_two.1 e.2))]
   decide
  unfold cz bh
  simp [hj]
theorem sl{xs:List Int}{r:Int}(hr:bL r=false):cz (oC xs) (oD xs) (kD xs) (kE xs) (lZ xs) (bQ r) (aL tPict r) (du r)=dw xs r:=by
 cases ho:bT xs with
 | false =>
  rw [jK hr ho];unfold cz oC;rw [ho,if_pos rfl]
 | true =>
  have hn:0<xs.length:=by
   cases xs with
   | nil=>cases ho
   | cons=>simp
  obtain ⟨k1,k2,k3,k4⟩:=iY xs r;obtain ⟨v1,v2,v3⟩:=kJ xs;unfold dw;rw [lq,k1,k2,k3,k4,eU,v1,v2,v3,decide_eq_true hn];unfold oC oD;rw [ho,if_pos rfl]
  rfl
theorem uA{xs:List Int}{r:Int}(hr:bL r=false):oC (xs++[r])=true/\oD (xs++[r])=bQ r/\kD (xs++[r])=dg (kD xs) (du r)/\kE (xs++[r])=eu (kE xs) (bQ r) (aL tPict r)/\lZ (xs++[r])=(bQ r == 6 && !lZ xs):=by
 have ho:bT (xs++[r])=true:=by rw [cI,hr];rfl
 obtain ⟨h1,h2,h3,h4⟩:=iZ xs r;obtain ⟨v1,v2,v3⟩:=kJ xs;obtain ⟨u1,u2,u3⟩:=kJ (xs++[r]);refine ⟨ho,?_,?_,?_,?_⟩
 ·unfold oD;rw [if_pos ho,h4]
 ·rw [u1,h1,v1]
 ·rw [u2,h2,v2]
 ·rw [u3,h3,v3]
theorem xL{xs:List Int}{r:Int}(hr:bL r=true):oC (xs++[r])=false/\oD (xs++[r])=0/\kD (xs++[r])=0/\kE (xs++[r])=0/\lZ (xs++[r])=false:=by
 have ho:bT (xs++[r])=false:=by rw [cI,hr];rfl
 unfold oC oD kD kE lZ;rw [ho];exact ⟨rfl,rfl,rfl,rfl,rfl⟩
theorem yM(xs:List Int):0<=kD xs/\kD xs<=255/\0<=kE xs/\kE xs<=255:=by
 obtain ⟨v1,v2,_⟩:=kJ xs;have h1:=uQ (aq xs) xs.length;have h2:=uR (aq xs) xs.length;rw [v1,v2];omega
theorem jL:∀ (n:Nat) (xs:List Int),xs.length=n->bT xs=true->bL ((aU xs).getD 0 0)=false/\aU xs≠[]:=by
 intro n
 induction n with
 | zero =>
  intro xs hn ho;rw [List.length_eq_zero_iff.1 hn] at ho
  cases ho
 | succ n ih =>
  intro xs hn ho
  rcases eh xs with rfl | ⟨ys,r,rfl⟩
  ·cases ho
  ·have hr:bL r=false:=by rw [cI] at ho;simpa using ho
   cases hj:dw ys r with
   | false =>
    rw [(eZ hj).2];exact ⟨hr,by simp⟩
   | true =>
    have hy:bT ys=true:=by
     cases h:bT ys with
     | true=>rfl
     | false=>rw [jK hr h] at hj;cases hj
    obtain ⟨h1,h2⟩:=ih ys (by simp at hn;exact hn) hy;rw [(fH hj).2];refine ⟨?_,by simp⟩;obtain ⟨a,t,e⟩:=List.exists_cons_of_ne_nil h2;rw [e] at h1 ⊢;exact h1
theorem oE{xs:List Int}{r:Int}(hr:bL r=true)(hj:dw xs r=true):aU xs=[13]/\bT xs=false/\xs≠[]:=by
 rcases eh xs with rfl | ⟨ys,q,rfl⟩
 ·rw [jJ] at hj;cases hj
 ·obtain ⟨k1,k2,k3,k4⟩:=iY (ys++[q]) r;obtain ⟨p1,p2⟩:=iF (gH hr);have hc:=gH hr;have hj0:=hj;unfold dw at hj;rw [lq,k1,k2,k3,k4,eU,(iZ ys q).2.2.2] at hj;have h1:cl (bQ q) (bQ r)=1:=by
   unfold cz bh at hj;have h6:(bQ r == 6)=false:=by simp;omega
   simp only [p1,p2,h6] at hj
   by_cases e:cl (bQ q) (bQ r)=1
   ·exact e
   ·simp [e] at hj
  have hq:bQ q=1:=by
   unfold cl cF at h1;have hr3:clI (bQ r)=bQ r:=by unfold clI;split <;> omega
   have hb:brB (clI (bQ r))=true:=by rw [hr3];unfold brB;simp;omega
   by_cases e:clI (bQ q)=1/\clI (bQ r)=2
   ·have:=e.1;unfold clI at this;split at this <;> omega
   ·rw [if_neg e,if_pos (.inr hb)] at h1
    cases h1
  have hq13:q=13:=by
   by_cases e:q=13
   ·exact e
   ·exfalso;have hl:=mr q;have DG:=iE q;unfold bQ at hq;rw [if_neg e] at hq
    repeat' split at hq
    all_goals omega
  subst hq13;have hs:bL 13=true:=by decide
  refine ⟨?_,by rw [cI,hs];rfl,rH _ _⟩;have hn:dw ys 13=false:=by
   cases hjy:dw ys 13 with
   | false=>rfl
   | true =>
    exfalso
    rcases eh ys with rfl | ⟨zs,q2,rfl⟩
    ·rw [jJ] at hjy;cases hjy
    ·obtain ⟨k1,k2,k3,k4⟩:=iY (zs++[q2]) 13;obtain ⟨p1,p2⟩:=iF (gH hs);unfold dw at hjy;rw [lq,k1,k2,k3,k4,eU,(iZ zs q2).2.2.2] at hjy;have h1:cl (bQ q2) (bQ 13)=1:=by
      unfold cz bh at hjy;have h6:(bQ 13 == 6)=false:=by decide
      simp only [p1,p2,h6] at hjy
      by_cases e:cl (bQ q2) (bQ 13)=1
      ·exact e
      ·simp [e] at hjy
     have Ep:bQ 13=1:=rfl;rw [Ep] at h1;unfold cl cF at h1;have e1:clI 1=1:=by decide
     rw [e1] at h1;rw [if_neg (fun e=>absurd e.2 (by decide)),if_pos (.inr (by decide))] at h1
     cases h1
  exact (eZ hn).2
end
def zeroL:List Int:=[1,2,3,4,5,10,11]
theorem zF(w:World)(br:Int)(b:Bool)(cv ea:Int):∃ W,W=(w.alloc (.cells #[.int .i64 br,.bool b,.int .i64 cv,.int .i64 ea] 33)).alloc (.cells #[.int .i64 1,.int .i64 2,.int .i64 3,.int .i64 4,.int .i64 5,.int .i64 10,.int .i64 11] 3) /\
  Has W w.heap.size [.int .i64 br,.bool b,.int .i64 cv,.int .i64 ea] 33/\Has W (w.heap.size+1) (zeroL.map (Value.int .i64)) 3/\Below w.heap.size w W:=by
 refine ⟨_,rfl,(Has.new w _ _).alloc _,?_,(zI _ _).alloc (by simp) _⟩;have:=Has.new (w.alloc (.cells #[.int .i64 br,.bool b,.int .i64 cv,.int .i64 ea] 33)) (zeroL.map (Value.int .i64)) 3;rw [World.size_alloc] at this;exact this
theorem pT(br:Int):(br=1\/br=2\/br=3\/br=4\/br=5\/br=10\/br=11)↔∃ j,j<7/\br=zeroL.getD j 0:=by
 constructor
 ·rintro (h | h | h | h | h | h | h)
  ·exact ⟨0,by decide,h⟩
  ·exact ⟨1,by decide,h⟩
  ·exact ⟨2,by decide,h⟩
  ·exact ⟨3,by decide,h⟩
  ·exact ⟨4,by decide,h⟩
  ·exact ⟨5,by decide,h⟩
  ·exact ⟨6,by decide,h⟩
 ·rintro ⟨j,hj,h⟩
  match j,hj with
  | 0,_=>exact .inl h
  | 1,_=>exact .inr (.inl h)
  | 2,_=>exact .inr (.inr (.inl h))
  | 3,_=>exact .inr (.inr (.inr (.inl h)))
  | 4,_=>exact .inr (.inr (.inr (.inr (.inl h))))
  | 5,_=>exact .inr (.inr (.inr (.inr (.inr (.inl h)))))
  | 6,_=>exact .inr (.inr (.inr (.inr (.inr (.inr h)))))
theorem wO{br ea:Int}{j:Nat}(hj:j<7)(h:br=zeroL.getD j 0):bA br ea=0:=by
 unfold bA;rw [if_pos ((pT br).2 ⟨j,hj,h⟩)]
theorem tW{br ea:Int}(h:∀ j,j<7->br≠zeroL.getD j 0):(ea=1/\bA br ea=2)\/((ea == 1)=false/\ea=2/\bA br ea=2)\/((ea == 1)=false/\(ea == 2)=false/\bA br ea=1):=by
 have hn:¬ (br=1\/br=2\/br=3\/br=4\/br=5\/br=10\/br=11):=fun e=>by
  obtain ⟨j,hj,hh⟩:=(pT br).1 e;exact h j hj hh
 unfold bA;rw [if_neg hn]
 by_cases e1:ea=1
 ·exact .inl ⟨e1,by simp [e1]⟩
 by_cases e2:ea=2
 ·exact .inr (.inl ⟨by simpa using e1,e2,by simp [e2]⟩)
 ·exact .inr (.inr ⟨by simpa using e1,by simpa using e2,by simp [e1,e2]⟩)
theorem wP(br:Int)(b:Bool)(cv ea:Int)(w:World):Calls Tryz.prog 140 #[.agg #[.int .i64 br,.bool b,.int .i64 cv,.int .i64 ea]] w (Gives w (.int .i64 (bA br ea))):=by
 go_enter Tryz.func140,Tryz.ntmps140
 go_wp2;obtain ⟨W,hW,hp,hz,hl⟩:=zF w br b cv ea;rw [<-hW];have p0:=hp.cell 0 _ rfl;have p3:=hp.cell 3 _ rfl;have HP:=ab hp;have HZ:=ab hz;have hlz:=hz.lt;clear hp hz hW
 go_loopw [4] (fun i wr=>∃ k:Nat,k<=7/\i=.int .i64 k/\Hid (∀ j,j<k->br≠zeroL.getD j 0)/\Below W.heap.size W wr) (fun i _=>7 - (intOf i).toNat)
 case atStart=>exact ⟨0,Nat.zero_le _,rfl,ab (fun j hj=>by omega),Below.refl _ _⟩
 case round =>
  obtain ⟨k,hk,rfl,HN,zN⟩:=hrel;have p0:=(zN.cell (p:=⟨w.heap.size,0,none⟩) HP.out.lt).trans p0;have p3:=(zN.cell (p:=⟨w.heap.size,3,none⟩) HP.out.lt).trans p3
  by_cases hlt:k<7
  ·have hz:=(zN.cell (p:=⟨w.heap.size+1,k,none⟩) HZ.out.lt).trans (HZ.out.cell k (.int .i64 (zeroL.getD k 0)) (by
    have hk7:k<zeroL.length:=hlt
    simp [List.getElem?_eq_getElem hk7]))
   by_cases he:br=zeroL.getD k 0
   ·have HV:=ab (wO (ea:=ea) hlt he);rw [<-he] at hz;clear he HN;go_wp2
    go_quiet (fail)
    have Ax:=hl.trans ((zN.drewN nq).mono hl.size);go_wp2;go_ret;exact ⟨al (by rw [HV.out];rfl),Ax⟩
   ·have FD:=ab (show ∀ j,j<k+1->br≠zeroL.getD j 0 from fun j hj=>by
     by_cases h:j=k
     ·subst h;exact he
     ·exact HN.out j (by omega))
    have he':(br == zeroL.getD k 0)=false:=by simpa using he
    generalize zeroL.getD k 0=z at hz he he';go_wp2
    go_quiet (fail)
    have zN:=zN.drewN nq;go_wp2
    go_roundw
    case rel=>exact ⟨k+1,by omega,by go_num,FD,zN⟩
    case measure=>simp [intOf] <;> omega
  ·have hm:=tW (br:=br) (ea:=ea) (fun j hj=>HN.out j (by omega));have Ax:=hl.trans (zN.mono hl.size);clear HN
   rcases hm with ⟨rfl,hs⟩ | ⟨h1,rfl,hs⟩ | ⟨h1,h2,hs⟩
   all_goals
    have HS:=ab hs;clear hs;go_wp2;go_ret;exact ⟨al (by rw [HS.out];rfl),Ax⟩
def gE(ps:List Pr):Nat->Bool
 | 0=>false
 | k+1=>(ps.getD k Pr.none).pc
def ee(xs:List Int)(ps:List Pr)(i:Nat):Bool:=dz (decide (0<i)) (gE ps i) (xs.getD i 0) (ps.getD i Pr.none).br (ps.getD i Pr.none).pc (ps.getD i Pr.none).ea
def iS(xs:List Int)(ps:List Pr):Nat->Bool
 | 0=>false
 | k+1=>iS xs ps k || ee xs ps k
def j7(xs:List Int)(ps:List Pr)(n:Nat):Int:=if iS xs ps n=true then 2 else 1
theorem tU{xs:List Int}{ps:List Pr}{k n:Nat}(h:k<=n)(ha:iS xs ps k=true):iS xs ps n=true:=by
 induction n with
 | zero =>
  obtain rfl:k=0:=by omega
  exact ha
 | succ n ih =>
  by_cases e:k=n+1
  ·subst e;exact ha
  ·show (iS xs ps n || ee xs ps n)=true;rw [ih (by omega)];rfl
theorem wM{xs:List Int}{ps:List Pr}{k n:Nat}(h:k<n)(hc:ee xs ps k=true):j7 xs ps n=2:=by
 unfold j7;rw [if_pos (tU (k:=k+1) (by omega) (by show (iS xs ps k || ee xs ps k)=true;rw [hc];simp))]
theorem tV(xs:List Int)(ps:List Pr):ee xs ps 0=(bA (ps.getD 0 Pr.none).br (ps.getD 0 Pr.none).ea == 2):=by
 unfold ee dz gE
 simp
theorem ro(r br:Int)(pic pc:Bool)(ea:Int):((bA br ea == 2)=true/\dz true pic r br pc ea=true)\/((bA br ea == 2)=false/\(r == 65039)=true/\pic=true/\dz true pic r br pc ea=true)
  \/ ((bA br ea == 2)=false/\((r == 65039)=true/\pic=false\/(r == 65039)=false)/\pc=true/\dz true pic r br pc ea=true)\/((bA br ea == 2)=false/\((r == 65039)=true/\pic=false\/(r == 65039)=false)/\pc=false/\(br == 6)=true/\dz true pic r br pc ea=true)
  \/ ((bA br ea == 2)=false/\((r == 65039)=true/\pic=false\/(r == 65039)=false)/\pc=false/\(br == 6)=false/\dz true pic r br pc ea=false):=by
 unfold dz
 cases h1:(bA br ea == 2) <;> cases h2:(r == 65039) <;> cases pic <;> cases h3:(br == 6) <;> cases pc <;> simp
theorem wN(v u:Value)(xs:List Int)(ps:List Pr)(w:World)(hx:Held .i32 w v xs)(hp:HeldP w u ps)(hl:ps.length=xs.length)(hn:xs.length<=1000000) :
  Calls Tryz.prog 76 #[v,u] w (Gives w (.int .i64 (j7 xs ps xs.length))):=by
 obtain ⟨ao,ca,rfl,hc⟩:=hx.view;obtain ⟨bo,cb,rfl,_⟩:=id hp;obtain ⟨_,hd⟩:=hp.at;have HC:=ab hc;have HD:=ab hd;rw [hl] at *;clear hc hd hx hp
 go_enter Tryz.func76,Tryz.ntmps76
 go_wp2
 go_loopw [5] (fun i wr=>∃ k:Nat,k<=xs.length/\i=.int .i64 k/\Hid (iS xs ps k=false)/\Below w.heap.size w wr) (fun i _=>xs.length - (intOf i).toNat)
 case atStart=>exact ⟨0,Nat.zero_le _,rfl,ab rfl,Below.refl _ _⟩
 case round =>
  obtain ⟨k,hk,rfl,HN,zN⟩:=hrel
  by_cases hlt:k<xs.length
  ·obtain ⟨b1,o1,rfl,hb1,AX⟩:=HC.out k hlt;obtain ⟨b2,o2,rfl,hb2,d0,d1,d2,d3⟩:=HD.out k hlt;have hstep:iS xs ps (k+1)=ee xs ps k:=by show (iS xs ps k || ee xs ps k)=_;rw [HN.out];rfl
   have DQ:ee xs ps k=true->j7 xs ps xs.length=2:=wM hlt;have HR:=ab (fun w=>wP (ps.getD k Pr.none).br (ps.getD k Pr.none).pc (ps.getD k Pr.none).cv (ps.getD k Pr.none).ea w)
   cases k with
   | zero =>
    rw [tV] at hstep DQ;simp only [Nat.zero_mul,Nat.add_zero] at d0 d1 d2 d3 AX;obtain ⟨q,hq⟩:=ae (ps.getD 0 Pr.none);rw [<-hq] at d0 d1 d2 d3 hstep DQ HR;clear hq AX;generalize bA q.br q.ea=x at *;have d0:=(zN.cell (p:=⟨b2,o2,none⟩) hb2).trans d0;have d1:=(zN.cell (p:=⟨b2,o2+1,none⟩) hb2).trans d1;have d2:=(zN.cell (p:=⟨b2,o2+2,none⟩) hb2).trans d2;have d3:=(zN.cell (p:=⟨b2,o2+3,none⟩) hb2).trans d3
    cases Bj:(x == 2) with
    | true =>
     have HV:=ab (DQ Bj);clear hstep DQ HN
     go_wp2_with fail
     refine (HR.out _).mono ?_;rintro e w2 ⟨rfl,bb⟩;have Ax:=zN.trans (bb.mono zN.size);clear d0 d1 d2 d3;go_wp2;go_ret;exact ⟨al (by rw [HV.out];rfl),Ax⟩
    | false =>
     rw [Bj] at hstep;have FD:=ab hstep;clear hstep DQ HN
     go_wp2_with fail
     refine (HR.out _).mono ?_;rintro e w2 ⟨rfl,bb⟩;have Ax:=zN.trans (bb.mono zN.size);clear d0 d1 d2 d3;go_wp2
     go_roundw
     case rel=>exact ⟨1,by omega,by go_num,FD,Ax⟩
     case measure=>simp [intOf] <;> omega
   | succ m =>
    obtain ⟨b3,o3,e3,hb3,_,p1,_,_⟩:=HD.out m (by omega)
    cases e3
    have hcond:ee xs ps (m+1)=dz true (ps.getD m Pr.none).pc (xs.getD (m+1) 0) (ps.getD (m+1) Pr.none).br (ps.getD (m+1) Pr.none).pc (ps.getD (m+1) Pr.none).ea:=by
     unfold ee gE;rw [decide_eq_true (show 0<m+1 by omega)]
    rw [hcond] at hstep DQ;have hcs:=ro (xs.getD (m+1) 0) (ps.getD (m+1) Pr.none).br (ps.getD m Pr.none).pc (ps.getD (m+1) Pr.none).pc (ps.getD (m+1) Pr.none).ea;obtain ⟨q,hq⟩:=ae (ps.getD (m+1) Pr.none);rw [<-hq] at d0 d1 d2 d3 hstep DQ HR hcs;obtain ⟨pic,hpic⟩:=ae ((ps.getD m Pr.none).pc);rw [<-hpic] at p1 hstep DQ hcs;obtain ⟨r,hr⟩:=ae (xs.getD (m+1) 0);rw [<-hr] at AX hstep DQ hcs;obtain ⟨br,pc,cv,ea⟩:=q;simp only at d0 d1 d2 d3 hstep DQ HR hcs;clear hcond hq hpic hr HN;have HF:=ab (show ∀ w2,Below w.heap.size w w2->w2.cell? ⟨b1,o1+(m+1),none⟩=some (.int .i32 r)/\w2.cell? ⟨b2,o2+m * 4+1,none⟩=some (.bool pic)/\w2.cell? ⟨b2,o2+(m+1) * 4,none⟩=some (.int .i64 br)/\w2.cell? ⟨b2,o2+(m+1) * 4+1,none⟩=some (.bool pc)/\w2.cell? ⟨b2,o2+(m+1) * 4+2,none⟩=some (.int .i64 cv)/\w2.cell? ⟨b2,o2+(m+1) * 4+3,none⟩=some (.int .i64 ea) from fun w2 h =>
     ⟨(h.cell (p:=⟨b1,o1+(m+1),none⟩) hb1).trans AX,(h.cell (p:=⟨b2,o2+m * 4+1,none⟩) hb2).trans p1,(h.cell (p:=⟨b2,o2+(m+1) * 4,none⟩) hb2).trans d0,(h.cell (p:=⟨b2,o2+(m+1) * 4+1,none⟩) hb2).trans d1,(h.cell (p:=⟨b2,o2+(m+1) * 4+2,none⟩) hb2).trans d2,(h.cell (p:=⟨b2,o2+(m+1) * 4+3,none⟩) hb2).trans d3⟩)
    generalize bA br ea=x at *;clear AX p1 d0 d1 d2 d3;have hw0:(m:Int)+1 - 1=(m:Int):=by omega
    have HST:=ab hstep;have OP:=ab DQ;clear hstep DQ
    rcases hcs with ⟨h1,hs⟩ | ⟨h1,h2,rfl,hs⟩ | ⟨h1,⟨h2,rfl⟩ | h2,rfl,hs⟩ | ⟨h1,⟨h2,rfl⟩ | h2,rfl,h4,hs⟩ | ⟨h1,⟨h2,rfl⟩ | h2,rfl,h4,hs⟩
    all_goals
     have HS:=ab hs;clear hs;obtain ⟨c0,c1,c2,c3,c4,c5⟩:=HF.out wr zN
     go_wp2_with fail
     refine (HR.out _).mono ?_;rintro e w2 ⟨rfl,bb⟩;have Ax:=zN.trans (bb.mono zN.size);clear c0 c1 c2 c3 c4 c5;obtain ⟨c0,c1,c2,c3,c4,c5⟩:=HF.out w2 Ax;go_wp2
    all_goals first
     |(go_ret;exact ⟨al (by rw [OP.out HS.out];rfl),Ax⟩)
     |(go_roundw
       case rel=>exact ⟨m+2,by omega,by go_num,ab (HST.out.trans HS.out),Ax⟩
       case measure=>simp [intOf] <;> omega)
  ·obtain rfl:k=xs.length:=by omega
   have HV:=ab (show j7 xs ps xs.length=1 by unfold j7;rw [HN.out];rfl);clear HN;go_wp2;go_ret;exact ⟨al (by rw [HV.out];rfl),zN⟩
theorem tX(v:Value)(xs:List Int)(w:World)(hx:Held .i32 w v xs)(hn:xs.length<=1000000)(hr:∀ i,i<xs.length -> -2147483648<=xs.getD i 0/\xs.getD i 0<=2147483647) :
  Calls Tryz.prog 161 #[v] w (Gives w (.int .i64 (j7 xs (aq xs) xs.length))):=by
 obtain ⟨ao,ca,rfl,hc⟩:=hx.view;have HC:=ab hc;have HX:=ab hx;have HR:=ab hr;clear hc hx hr
 go_enter Tryz.func161,Tryz.ntmps161
 go_wp2
 go_loopw [3,4] (fun p i wr=>∃ k:Nat,k<=xs.length/\i=.int .i64 k/\wr.ownsRow w.heap.size 33 4 p k (bV ((aq xs).take k))/\Below w.heap.size w wr) (fun _ i _=>xs.length - (intOf i).toNat)
 case atStart=>exact ⟨0,Nat.zero_le _,rfl,World.ownsRow_nil _ _ _ _,Below.refl _ _⟩
 case round =>
  obtain ⟨k,hk,rfl,hown,zN⟩:=hrel
  by_cases hlt:k<xs.length
  ·obtain ⟨b,off,rfl,hb,AX⟩:=HC.out k hlt;have AX:=(zN.cell (p:=⟨b,off+k,none⟩) hb).trans AX;obtain ⟨r0,r1⟩:=HR.out k hlt;have CN:=oV (aq xs) k (by rw [cS];exact hlt);rw [mz hlt] at CN;obtain ⟨r,hr⟩:=ae (xs.getD k 0);rw [<-hr] at AX r0 r1 CN;have Gi:=ab CN;have HOW:=ab hown;clear hr CN hown
   go_wp2_with fail
   refine (lg r _ r0 r1).mono ?_;rintro e w1 ⟨rfl,b1⟩;have hown1:=aN HOW.out b1;have hb1:=zN.trans (b1.mono zN.size);rw [show gJ r=.agg #[.int .i64 (bQ r),.bool (aL tPict r),.int .i64 (du r),.int .i64 (eL r)] from rfl];clear AX
   go_wp2_with (at_builtin;refine fe w1 rfl (.tmp 11) (.tmp 17) 28 rfl w.heap.size 33 (.agg #[.int .i64 0,.bool false,.int .i64 0,.int .i64 0]) 4 32 Tryz.underlying28 mA rfl (by decide) u3 k (bV ((aq xs).take k)) rfl hown1 [.int .i64 (bQ r),.bool (aL tPict r),.int .i64 (du r),.int .i64 (eL r)] 1 1 rfl rfl (by intro u hu;simp at hu;rcases hu with rfl | rfl | rfl | rfl <;> rfl) (by omega) (by omega) hb1.size ?_)
   intro v' w' hown' hb';have hown2:w'.ownsRow w.heap.size 33 4 v' (k+1) (bV ((aq xs).take (k+1))):=by rw [Gi.out];exact hown'
   have L4:=hb1.trans hb';clear hown1 hown';go_wp2
   go_roundw
   case rel=>exact ⟨k+1,by omega,by go_num,hown2,L4⟩
   case measure=>simp [intOf] <;> omega
  ·obtain rfl:k=xs.length:=by omega
   rw [List.take_of_length_le (by rw [cS];exact Nat.le_refl _)] at hown;have hp:=ix hown;obtain ⟨po,pc,rfl,_⟩:=id hp;have HP:=ab hp;clear hp hown
   go_wp2_with fail
   refine (wN _ _ xs (aq xs) _ (HX.out.below zN) HP.out (cS xs) hn).mono ?_;rintro e w2 ⟨rfl,b2⟩;have Ax:=zN.trans (b2.mono zN.size);go_wp2;go_ret;exact ⟨af,Ax⟩
theorem kC{P:Program}{ρ:Operand->Value}{o:Oper}{s x:Operand}{t:TypeId}{w w':World}{v u v':Value}(ho:o.op=.call { callee:=.builtin .append,args:=#[s,x],argTypes:=#[t,t] })(hs:ρ s=v)(hx:ρ x=u)
  (hr:(Builtin.append_ #[t,t] o.type #[v,u]).run P w=.ok v' w'):(execOp ρ o).run P w=.ok (.value v') w':=by
 unfold execOp;simp only [ho,resolve,invoke,builtin,Sem.run_bind,Sem.run_pure,Result.andThen_ok,List.map_toArray,List.map_cons,List.map_nil,hs,hx,hr]
def wdC(T:List Int):Int:=if bL (T.getD 0 0)=true then 0 else j7 (T.take 16) (aq (T.take 16)) (T.take 16).length
theorem yn(xs:List Int)(ps:List Pr)(n:Nat):j7 xs ps n=1\/j7 xs ps n=2:=by unfold j7;split <;> simp
theorem yZ(T:List Int):(bL (T.getD 0 0)=true/\wdC T=0)\/(bL (T.getD 0 0)=false/\1<=wdC T/\wdC T<=2):=by
 unfold wdC
 cases h:bL (T.getD 0 0) with
 | true=>exact .inl ⟨rfl,by simp⟩
 | false =>
  right
  refine ⟨rfl,?_⟩;rw [if_neg (by simp)]
  rcases yn (T.take 16) (aq (T.take 16)) (T.take 16).length with h | h <;> omega
theorem iW(Z:an)(v:Value)(xs:List Int)(w:World)(hv:HeldE (aE .i32) Z w v xs)(hZ:∀ b,Z b->b<w.heap.size)(h0:0<xs.length)(hl:xs.length<=1000000):Calls Tryz.prog 92 #[v] w (iI 21 .i32 w (xs.take 16)):=by
 obtain ⟨ao,ca,rfl,Bh,hmx,_⟩:=id hv;obtain ⟨b,off,rfl,hb,_⟩:=hv.ints.spots 0 h0;obtain ⟨K,hK⟩:=ae (min xs.length 16);have HP:=ab (show HeldE (aE .i32) Z w (.slice (some ⟨b,off,none⟩) K ca) (xs.take K) from by
  have hp:=hv.part 0 K (Nat.zero_le _) (by omega) (some ⟨b,off,none⟩) ca (fun h=>by cases h) (fun b' o' h _=>by cases h;simp) (fun _ _=>by simp) (by omega) hmx
  simpa using hp)
 have HT:=ab (show xs.take K=xs.take 16 from by
  rw [hK]
  by_cases h:xs.length<=16
  ·rw [Nat.min_eq_left h,List.take_of_length_le (Nat.le_refl _),List.take_of_length_le h]
  ·rw [Nat.min_eq_right (by omega)])
 have Nn:=ab (show (xs.take K).length=K from by rw [List.length_take];omega);obtain ⟨n,hn⟩:=ae (xs.length);rw [<-hn] at Bh hK h0 hl ⊢;have hmin:min (n:Int) 16=(K:Int):=by omega
 have NB:K<=ca:=by omega
 have hKi:(K:Int)<=(ca:Int):=by omega
 have hK16:K<=16:=by omega
 have HZ:=ab hZ;obtain ⟨XK,IB⟩:=ae (xs.take K);rw [<-IB] at HP HT Nn;have hb1:=zI w (.cells #[] 21);have AA:OwnE (aE .i32) (fun _=>True) (w.alloc (.cells #[] 21)) w.heap.size 21 (.slice (some ⟨w.heap.size,0,none⟩) 0 0) []:=OwnE.empty (World.ownsRow_lit w #[] 0 (Nat.le_refl _) (by decide) rfl);have A4:=ab AA;have Mx:=ab (show HeldE (aE .i32) (fun b9=>True/\(Value.slice (some ⟨w.heap.size,0,none⟩) 0 0).ownBlock≠some b9) (w.alloc (.cells #[] 21)) _ XK from (HP.out.below hb1).zone (fun b9 _ h=>⟨trivial,fun e=>by have h9:=(A4.out.lt _ e).1;have:=HZ.out b9 h;omega⟩));have Ag:=ab hb1;clear hv hn hK IB hZ hb1 AA hmx hb
 go_enter Tryz.func92,Tryz.ntmps92
 go_wp2_with (at_builtin;refine aw (E:=aE .i32) (Z:=fun _=>True) rfl (.tmp 3) (.tmp 8) 27 rfl (.int .i32 0) 4 Tryz.underlying27 fw rfl (by decide) rfl rfl A4.out Mx.out (by rw [Nn.out];simp only [List.length_nil];omega) (by rw [Nn.out];simp only [List.length_nil];omega) Ag.out.size ?_)
 intro v2 w2 Ap b2 _ _
 try rw [List.nil_append] at Ap
 have HR:=ab (show iI 21 .i32 w (xs.take 16) (.returned v2) w2 from by rw [<-HT.out];exact ⟨v2,rfl,Ap.ints,Ag.out.trans b2⟩);clear Ap b2;go_wp2;go_ret;exact HR.out
theorem qf(Z:an)(v:Value)(T:List Int)(w:World)(hv:HeldE (aE .i32) Z w v T)(hZ:∀ b,Z b->b<w.heap.size)(h0:0<T.length)(hl:T.length<=1000000)(hr:bI T):Calls Tryz.prog 97 #[v] w (Gives w (.int .i64 (wdC T))):=by
 obtain ⟨ao,ca,rfl⟩:=hv.len;obtain ⟨b,off,rfl,_,c0⟩:=hv.ints.spots 0 h0;rw [Nat.add_zero] at c0;have HF:=ab (fun w' (h:Below w.heap.size w w')=>iW Z _ T w' (hv.below h) (fun b hb=>Nat.lt_of_lt_of_le (hZ b hb) h.size) h0 hl);have HS:=ab (ek (T.getD 0 0));have Fx:=yZ T;have HW:=ab (show bL (T.getD 0 0)=false->j7 (T.take 16) (aq (T.take 16)) (T.take 16).length=wdC T from fun h=>by unfold wdC;rw [if_neg (by rw [h];decide)]);have HT:=ab (show (T.take 16).length<=1000000 by rw [List.length_take];omega);have HR:=ab (show bI (T.take 16) from fun i hi=>by
  rw [List.length_take] at hi;have:=hr i (by omega);rw [show (T.take 16).getD i 0=T.getD i 0 from by simp [List.getD,List.getElem?_take,show i<16 by omega]];exact this)
 obtain ⟨x,hx⟩:=ae (T.getD 0 0);rw [<-hx] at c0 HS Fx HW;obtain ⟨n,hn⟩:=ae (T.length);rw [<-hn] at HF h0 hl ⊢;obtain ⟨F,hF⟩:=ae (T.take 16);rw [<-hF] at HF HW HT HR;obtain ⟨W,hW⟩:=ae (wdC T);rw [<-hW] at Fx HW ⊢;clear hv hx hn hF hW hZ hr
 rcases Fx with ⟨hs,hw0⟩ | ⟨hs,Ce,hw2⟩
 ·have HZ:=ab hw0;rw [hs] at HS;clear hs hw0
  go_enter Tryz.func97,Tryz.ntmps97
  go_wp2_with fail
  refine (HS.out w).mono ?_;rintro e w1 ⟨rfl,b1⟩;have HB:=ab b1;clear b1;go_wp2;go_ret;exact ⟨al (by rw [HZ.out];try rfl),HB.out⟩
 ·have HE:=ab (HW.out hs);rw [hs] at HS;clear hs Ce hw2
  go_enter Tryz.func97,Tryz.ntmps97
  go_wp2_with fail
  refine (HS.out w).mono ?_;rintro e w1 ⟨rfl,b1⟩;have HB:=ab b1;clear b1 c0
  go_wp2_with fail
  refine (HF.out w1 HB.out).mono ?_;rintro e w2 ⟨v2,rfl,Ap,b2⟩;have hc:=tX v2 F w2 (dO Ap) HT.out HR.out;rw [HE.out] at hc;have AM:=ab (HB.out.trans (b2.mono HB.out.size));clear Ap b2
  go_wp2_with fail
  refine hc.mono ?_;rintro e w3 ⟨rfl,b3⟩;have BD:=ab (AM.out.trans (b3.mono AM.out.size));clear b3 hc;go_wp2;go_ret;exact ⟨af,BD.out⟩
end Go.Proofs.YtoeggiplcaegoaaGreatDoor
