import Derived.Test.YtoeggiplcaegoaaGreatDoorZ0
import Derived.Test.YtoeggiplcaegoaaGreatDoorMg1
import Derived.StillTailTactics
set_option maxRecDepth 100000
set_option linter.unusedVariables false
set_option linter.unusedSimpArgs false
set_option maxHeartbeats 1000000
namespace Go.Proofs.YtoeggiplcaegoaaGreatDoor
open Go.RowKit Go.ChangeShapes Go.WideShapes
def rH(l:List Int):List Int:=l++List.replicate (16 - l.length) 0
theorem wX(l:List Int)(h:l.length<=16):(rH l).length=16:=by simp [rH];omega
def wcl(l:List Int):List Value:=.int .i64 l.length :: (rH l).map (Value.int .i32)
def wtl(a b c:Bool)(wd r k:Int)(p:Bool):List Value:=[.bool a,.bool b,.bool c,.int .i64 wd,.int .i64 r,.int .i64 k,.bool p]
theorem fD(l:List Int)(h:l.length<=16):(wcl l).length=17:=by simp [wcl,wX l h]
def WAt(w:World)(g:Nat)(l:List Int)(a b c:Bool)(wd r k:Int)(p:Bool):Prop:=Has w g (wcl l++wtl a b c wd r k p) 130/\l.length<=16
section
variable {w w' : World} {g : Nat} {l : List Int} {a b c : Bool} {wd r k : Int} {p : Bool}
theorem WAt.tail(h:WAt w g l a b c wd r k p)(i:Nat)(v:Value)(hv:(wtl a b c wd r k p)[i]? = some v):w.cell? ⟨g,17+i,none⟩=some v :=
 h.1.cell (17+i) v (by rw [List.getElem?_append_right (by rw [fD l h.2];omega),fD l h.2,Nat.add_sub_cancel_left];exact hv)
theorem WAt.cells(h:WAt w g l a b c wd r k p):w.cell? ⟨g,0,none⟩=some (.int .i64 l.length)/\w.cell? ⟨g,17,none⟩=some (.bool a)/\w.cell? ⟨g,18,none⟩=some (.bool b)/\w.cell? ⟨g,19,none⟩=some (.bool c)/\w.cell? ⟨g,20,none⟩=some (.int .i64 wd)/\w.cell? ⟨g,21,none⟩=some (.int .i64 r)/\w.cell? ⟨g,22,none⟩=some (.int .i64 k)/\w.cell? ⟨g,23,none⟩=some (.bool p) :=
 ⟨h.1.cell 0 _ rfl,h.tail 0 _ rfl,h.tail 1 _ rfl,h.tail 2 _ rfl,h.tail 3 _ rfl,h.tail 4 _ rfl,h.tail 5 _ rfl,h.tail 6 _ rfl⟩
theorem WAt.lt(h:WAt w g l a b c wd r k p):g<w.heap.size:=h.1.lt
theorem WAt.below(h:WAt w g l a b c wd r k p)(hb:Below w.heap.size w w'):WAt w' g l a b c wd r k p:=⟨h.1.below hb h.1.lt,h.2⟩
theorem WAt.at_(h:WAt w g l a b c wd r k p)(i:Nat)(hi:i<l.length):w.cell? ⟨g,1+i,none⟩=some (.int .i32 (l.getD i 0)):=by
 refine h.1.cell (1+i) _ ?_;rw [List.getElem?_append_left (by rw [fD l h.2];have:=h.2;omega)];unfold wcl rH;rw [Nat.add_comm,List.getElem?_cons_succ,List.getElem?_map,List.getElem?_append_left hi,List.getElem?_eq_getElem hi]
 simp [List.getD,List.getElem?_eq_getElem hi]
theorem ze(l:List Int)(T:List Value)(r:Int)(h:l.length<16):((wcl l++T).set (1+l.length) (.int .i32 r)).set 0 (.int .i64 ((l.length:Int)+1))=wcl (l++[r])++T:=by
 rw [List.set_append_left _ _ (by rw [fD l (by omega)];omega),List.set_append_left _ _ (by rw [List.length_set,fD l (by omega)];omega)]
 congr 1
 unfold wcl;rw [Nat.add_comm,List.set_cons_succ,List.set_cons_zero];have h1:((rH l).map (Value.int .i32)).set l.length (.int .i32 r)=(rH (l++[r])).map (Value.int .i32):=by
  rw [<-List.map_set]
  congr 1
  unfold rH;obtain ⟨m,hm⟩ : ∃ m,16 - l.length=m+1:=⟨15 - l.length,by omega⟩;have F5:16 - (l++[r]).length=m:=by simp;omega
  rw [hm,F5,List.replicate_succ,List.set_append_right _ _ (Nat.le_refl _)]
  simp
 rw [h1]
 simp
theorem iQ(l:List Int)(T:List Value)(i:Nat)(v:Value)(h:l.length<=16):(wcl l++T).set (17+i) v=wcl l++T.set i v:=by
 rw [List.set_append_right _ _ (by rw [fD l h];omega),fD l h,Nat.add_sub_cancel_left]
theorem WAt.gauge(h:WAt w g l a b c wd r k p)(x y z:Bool):WAt (((w.setCell ⟨g,17,none⟩ (.bool x)).setCell ⟨g,18,none⟩ (.bool y)).setCell ⟨g,19,none⟩ (.bool z)) g l x y z wd r k p/\But g w.heap.size w (((w.setCell ⟨g,17,none⟩ (.bool x)).setCell ⟨g,18,none⟩ (.bool y)).setCell ⟨g,19,none⟩ (.bool z)):=by
 have h1:=h.1.set (17+0) (.bool x);rw [iQ l _ 0 _ h.2] at h1;have h2:=h1.set (17+1) (.bool y);rw [iQ l _ 1 _ h.2] at h2;have h3:=h2.set (17+2) (.bool z);rw [iQ l _ 2 _ h.2] at h3;exact ⟨⟨h3,h.2⟩,(((But.refl _ _ _).set _ _).set _ _).set _ _⟩
theorem WAt.wide(h:WAt w g l a b c wd r k p)(x:Int):WAt (w.setCell ⟨g,20,none⟩ (.int .i64 x)) g l a b c x r k p/\But g w.heap.size w (w.setCell ⟨g,20,none⟩ (.int .i64 x)):=by
 have h1:=h.1.set (17+3) (.int .i64 x);rw [iQ l _ 3 _ h.2] at h1;exact ⟨⟨h1,h.2⟩,(But.refl _ _ _).set _ _⟩
theorem WAt.place(h:WAt w g l a b c wd r k p)(x y:Int)(z:Bool):WAt (((w.setCell ⟨g,21,none⟩ (.int .i64 x)).setCell ⟨g,22,none⟩ (.int .i64 y)).setCell ⟨g,23,none⟩ (.bool z)) g l a b c wd x y z/\Upd (fun q=>q=g) w (((w.setCell ⟨g,21,none⟩ (.int .i64 x)).setCell ⟨g,22,none⟩ (.int .i64 y)).setCell ⟨g,23,none⟩ (.bool z)):=by
 have h1:=h.1.set (17+4) (.int .i64 x);rw [iQ l _ 4 _ h.2] at h1;have h2:=h1.set (17+5) (.int .i64 y);rw [iQ l _ 5 _ h.2] at h2;have h3:=h2.set (17+6) (.bool z);rw [iQ l _ 6 _ h.2] at h3;exact ⟨⟨h3,h.2⟩,(((Upd.refl (fun q=>q=g) w).setCell (p:=⟨g,21,none⟩) (.inl rfl) _).setCell (p:=⟨g,22,none⟩) (.inl rfl) _).setCell (p:=⟨g,23,none⟩) (.inl rfl) _⟩
theorem wY(h:WAt w g l a b c wd r k p):Calls Tryz.prog 139 #[.pointer (some ⟨g,0,none⟩)] w fun e w'=>e=.returned (.int .i64 l.length)/\w=w':=by
 have c0:=h.cells.1;clear h
 go_enter Tryz.func139,Tryz.ntmps139
 go_wp2;go_ret;exact ⟨af,rfl⟩
theorem kc(h:WAt w g l a b c wd r k p)(q:Bool)(hb:((l.length:Int) == 16)=q):Calls Tryz.prog 74 #[.pointer (some ⟨g,0,none⟩)] w fun e w'=>e=.returned (.bool q)/\w=w':=by
 have HB:=ab hb;have H:=ab (wY h);clear hb h
 go_enter Tryz.func74,Tryz.ntmps74
 go_wp2_with fail
 refine H.out.mono ?_;rintro e w1 ⟨rfl,rfl⟩;go_wp2;go_ret;exact ⟨al (by first | rfl | (rw [HB.out];try rfl)),rfl⟩
theorem wZ(h:WAt w g l a b c wd r k p)(x:Int)(hl:l.length<16):Calls Tryz.prog 136 #[.pointer (some ⟨g,0,none⟩),.int .i32 x] w (fun e w'=>e=.returned (.bool true)/\WAt w' g (l++[x]) a b c wd r k p/\But g w.heap.size w w'):=by
 have hb:((l.length:Int) == 16)=false:=by simp;omega
 have HB:=ab hb;have c0:=h.cells.1;have f0:=h.1.free 0;have f1:=h.1.free (1+l.length);obtain ⟨x1,hx1⟩ : ∃ x,w.cell? ⟨g,1+l.length,none⟩=some x:=⟨_,h.1.cell (1+l.length) ((wcl l++wtl a b c wd r k p)[1+l.length]'(by rw [List.length_append,fD l (by omega)];omega)) (List.getElem?_eq_getElem _)⟩;have HF:=ab (show ∀ W,Has W g (wcl l++wtl a b c wd r k p) 130->WAt ((W.setCell ⟨g,1+l.length,none⟩ (.int .i32 x)).setCell ⟨g,0,none⟩ (.int .i64 ((l.length:Int)+1))) g (l++[x]) a b c wd r k p/\But g W.heap.size W ((W.setCell ⟨g,1+l.length,none⟩ (.int .i32 x)).setCell ⟨g,0,none⟩ (.int .i64 ((l.length:Int)+1))) from fun W h=>by
  have:=(h.set (1+l.length) (.int .i32 x)).set 0 (.int .i64 ((l.length:Int)+1));rw [ze l _ x hl] at this;exact ⟨⟨this,by simp;omega⟩,((But.refl _ _ _).set _ _).set _ _⟩)
 have HH:=ab h;have HU:=ab (kc h false HB.out);have b0:(0:Int)<=(l.length:Int):=by omega
 have b1:(l.length:Int)<16:=by omega
 clear hb h
 go_enter Tryz.func136,Tryz.ntmps136
 go_wp2_with fail
 refine HU.out.mono ?_;rintro e w1 ⟨rfl,rfl⟩;go_wp2
 go_still_tail 9,(by kernel_rfl)
 go_wp2;go_ret;exact ⟨af,(HF.out w HH.out.1).1,(HF.out w HH.out.1).2.drew⟩
theorem kd(h:WAt w g l a b c wd r k p):Calls Tryz.prog 73 #[.pointer (some ⟨g,0,none⟩)] w (j6 21 .i32 w l):=by
 have hl:=h.2;have c0:=h.cells.1;have hh:Held .i32 w.drew (.slice (some ⟨g,1,none⟩) l.length 16) l:=ik (show g<w.drew.heap.size from h.lt) (fun i hi=>h.at_ i hi);have b0:(0:Int)<=(l.length:Int):=by omega
 have b1:(l.length:Int)<=16:=by omega
 have DU:=lI _ l w.drew hh (by omega);have Jp:=ab DU;clear h hh DU
 go_enter Tryz.func73,Tryz.ntmps73
 go_wp2
 go_still_tail 8,(by kernel_rfl)
 go_wp2_with fail
 refine Jp.out.mono ?_;rintro e w1 ⟨v1,rfl,ho,hb⟩;go_wp2;go_ret;exact ⟨_,rfl,ho,zZ hb⟩
end
theorem m5(w:World)(br:Int)(pc:Bool)(cj ea:Int):∃ W,W=w.alloc (.cells #[Value.int .i64 br,.bool pc,.int .i64 cj,.int .i64 ea] 33)/\Has W w.heap.size [Value.int .i64 br,.bool pc,.int .i64 cj,.int .i64 ea] 33/\Below w.heap.size w W :=
 ⟨_,rfl,Has.new w _ _,AU _ _⟩
theorem pT(g:Nat)(l:List Int)(told pic two:Bool)(wd rr k:Int)(p:Bool)(r br:Int)(pc:Bool)(cv ea:Int)(w:World)(hg:WAt w g l told pic two wd rr k p) :
  Calls Tryz.prog 194 #[.pointer (some ⟨g,17,none⟩),.int .i32 r,.agg #[.int .i64 br,.bool pc,.int .i64 cv,.int .i64 ea]] w (Gives w (.bool (dC told pic r br pc ea))):=by
 have H0:=ab (show ∀ w1,Below (w.alloc (.cells #[.int .i64 br,.bool pc,.int .i64 cv,.int .i64 ea] 33)).heap.size (w.alloc (.cells #[.int .i64 br,.bool pc,.int .i64 cv,.int .i64 ea] 33)) w1->WAt w1 g l told pic two wd rr k p/\Has w1 w.heap.size [.int .i64 br,.bool pc,.int .i64 cv,.int .i64 ea] 33/\Below w.heap.size w w1 from fun w1 b1 =>
  ⟨⟨Has.below (Has.alloc hg.1 _) b1 (Has.alloc hg.1 _).lt,hg.2⟩,Has.below (Has.new w _ _) b1 (Has.new w _ _).lt,(AU _ _).trans (b1.mono (by simp))⟩)
 have HO:=ab (fun w=>zf br pc cv ea w);clear hg;have hcs:=uk told pic r br pc ea;generalize bA br ea=x at *
 rcases hcs with ⟨h1,hs⟩ | ⟨h1,h2,rfl,hs⟩ | ⟨h1,⟨h2,rfl⟩ | h2,⟨rfl,hs⟩ | ⟨rfl,rfl,hs⟩ | ⟨rfl,rfl,hs⟩⟩
 all_goals
  have HS:=ab hs;clear hs
  go_enter Tryz.func194,Tryz.ntmps194
  go_wp2_with fail
  refine (HO.out _).mono ?_;rintro e w1 ⟨rfl,b1⟩;obtain ⟨hg,hp,hl⟩:=H0.out w1 b1;obtain ⟨_,g0,g1,_⟩:=hg.cells;have p0:=hp.cell 0 _ rfl;have p1:=hp.cell 1 _ rfl;have hlt:=hg.lt;clear hg hp b1;go_wp2;go_ret;exact ⟨al (by rw [HS.out];first | rfl | simp),hl⟩
theorem uj(g:Nat)(l:List Int)(told pic two:Bool)(wd rr k:Int)(p:Bool)(r br:Int)(pc:Bool)(cv ea:Int)(w:World)(hg:WAt w g l told pic two wd rr k p) :
  Calls Tryz.prog 137 #[.pointer (some ⟨g,17,none⟩),.int .i32 r,.agg #[.int .i64 br,.bool pc,.int .i64 cv,.int .i64 ea]] w (fun e w'=>e=.returned (.int .i64 (if (two || dC told pic r br pc ea)=true then 2 else 1))/\WAt w' g l true pc (two || dC told pic r br pc ea) wd rr k p/\But g w.heap.size w w'):=by
 obtain ⟨y,hy⟩ : ∃ y,dC told pic r br pc ea=y:=⟨_,rfl⟩;have HW:=ab (fun w (h:WAt w g l told pic two wd rr k p)=>hy ▸ pT g l told pic two wd rr k p r br pc cv ea w h:∀ w,WAt w g l told pic two wd rr k p->Calls Tryz.prog 194 #[.pointer (some ⟨g,17,none⟩),.int .i32 r,.agg #[.int .i64 br,.bool pc,.int .i64 cv,.int .i64 ea]] w (Gives w (.bool y)));rw [hy];have hlt:=hg.lt;have HG:=ab hg;clear hg hy
 cases two
 all_goals cases y
 all_goals
  go_enter Tryz.func137,Tryz.ntmps137
  go_wp2_with fail
  obtain ⟨W,hW,hb,hl⟩:=m5 w br pc cv ea;rw [<-hW];have hg:WAt (w.alloc (.cells #[.int .i64 br,.bool pc,.int .i64 cv,.int .i64 ea] 33)) g l told pic _ wd rr k p:=⟨HG.out.1.alloc (.cells #[.int .i64 br,.bool pc,.int .i64 cv,.int .i64 ea] 33),HG.out.2⟩;rw [<-hW] at hg;have FU:=ab (show WAt W g l told pic _ wd rr k p from hg);have HL:=ab hl;have p0:=aj (hb.cell 0 _ rfl);have p1:=aj (hb.cell 1 _ rfl);have p2:=aj (hb.cell 2 _ rfl);have p3:=aj (hb.cell 3 _ rfl);have s2:=aj hg.cells.2.2.2.1;have f0:=aD (by simpa using hg.lt) (hg.1.free 17);have f1:=aD (by simpa using hg.lt) (hg.1.free 18);have f2:=aD (by simpa using hg.lt) (hg.1.free 19);have c0:=aj hg.cells.2.1;have c1:=aj hg.cells.2.2.1;have HX:=ab (show ∀ u:Growth W,WAt (ext W u) g l told pic _ wd rr k p from fun u=>FU.out.below u.ok);clear hg hb hl hW;refine aC 15 (by kernel_rfl) (by simp) (by kernel_rfl) (by kernel_rfl) (by kernel_rfl) (by kernel_rfl) (by kernel_rfl) ?_;simp only [List.take_succ_cons,List.take_zero,List.drop_succ_cons,List.drop_zero]
  repeat (go_big_quiet_step ((go_at_call 194;exact ei (HW.out _ (HX.out _)))))
  refine wpQuiet_nil ?_;intro _ hw';obtain ⟨u,hw''⟩:=hw';subst hw'';have hg3:WAt (ext W u) g l told pic _ wd rr k p:=FU.out.below u.ok;have Dz:=aU HL.out u;have hz:=fun x=>hg3.gauge true pc x
  have HZ:=ab hz;have C5:=ab Dz;clear hz hg3 Dz FU HX HW;go_wp2;go_ret;exact ⟨af,(HZ.out _).1,(But.ofBelow C5.out).trans ((HZ.out _).2.mono C5.out.size)⟩
end Go.Proofs.YtoeggiplcaegoaaGreatDoor
