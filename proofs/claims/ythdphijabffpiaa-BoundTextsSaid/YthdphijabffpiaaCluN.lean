import Derived.Test.YthdphijabffpiaaZ0
import Derived.Test.YthdphijabffpiaaMg1
import Derived.Laws.StructEq
import Derived.ChangeKeysEq
import Derived.StillTailTactics
set_option maxRecDepth 100000
set_option linter.unusedVariables false
set_option linter.unusedSimpArgs false
set_option maxHeartbeats 1000000
namespace Go.Proofs.Ythdphijabffpiaa
open Go.RowKit Go.ChangeShapes Go.WideShapes
def ex(l:List Int):List Int:=l++List.replicate (16 - l.length) 0
theorem gk(l:List Int)(h:l.length<=16):(ex l).length=16:=by simp [ex];omega
def aw(l:List Int):List Value:=.int .i64 l.length :: (ex l).map (Value.int .i32)
theorem aO(l:List Int)(h:l.length<=16):(aw l).length=17:=by simp [aw,gk l h]
def c5(w:World)(g:Nat)(l:List Int):Prop:=Has w g (aw l) 53
theorem ij(l:List Int)(r:Int)(h:l.length<16):((aw l).set (1+l.length) (.int .i32 r)).set 0 (.int .i64 ((l.length:Int)+1))=aw (l++[r]):=by
 unfold aw;rw [Nat.add_comm,List.set_cons_succ,List.set_cons_zero];have h1:((ex l).map (Value.int .i32)).set l.length (.int .i32 r)=(ex (l++[r])).map (Value.int .i32):=by
  rw [<-List.map_set]
  congr 1
  unfold ex;obtain ⟨m,hm⟩ : ∃ m,16 - l.length=m+1:=⟨15 - l.length,by omega⟩;have hm2:16 - (l++[r]).length=m:=by simp;omega
  rw [hm,hm2,List.replicate_succ,List.set_append_right _ _ (Nat.le_refl _)]
  simp
 rw [h1]
 simp
theorem it(w:World)(g:Nat)(l:List Int)(h:c5 w g l)(i:Nat)(hi:i<l.length):w.cell? ⟨g,1+i,none⟩=some (.int .i32 (l.getD i 0)):=by
 refine h.cell (1+i) _ ?_;unfold aw ex;rw [Nat.add_comm,List.getElem?_cons_succ,List.getElem?_map,List.getElem?_append_left hi,List.getElem?_eq_getElem hi]
 simp [List.getD,List.getElem?_eq_getElem hi]
theorem gl(g:Nat)(l:List Int)(w:World)(h:c5 w g l):Calls Try.prog 58 #[.pointer (some ⟨g,0,none⟩)] w fun e w'=>e=.returned (.int .i64 l.length)/\w=w':=by
 have c0:=h.cell 0 _ rfl;clear h
 go_enter Try.func58,Try.ntmps58
 go_wp2;go_ret;exact ⟨ae,rfl⟩
theorem dZ(g:Nat)(l:List Int)(w:World)(h:c5 w g l)(b:Bool)(hb:((l.length:Int) == 16)=b):Calls Try.prog 57 #[.pointer (some ⟨g,0,none⟩)] w fun e w'=>e=.returned (.bool b)/\w=w':=by
 have HB:=aa hb;clear hb
 go_enter Try.func57,Try.ntmps57
 go_wp2_with fail
 refine (gl g l _ h).mono ?_;rintro e w' ⟨rfl,rfl⟩;go_wp2;go_ret;exact ⟨az (by first | rfl | (rw [HB.out];try rfl)),rfl⟩
theorem fG(g:Nat)(l:List Int)(r:Int)(w:World)(h:c5 w g l)(hl:l.length=16):Calls Try.prog 45 #[.pointer (some ⟨g,0,none⟩),.int .i32 r] w fun e w'=>e=.returned (.bool false)/\w=w':=by
 have hb:((l.length:Int) == 16)=true:=by simp;omega
 have HB:=aa hb;clear hb hl
 go_enter Try.func45,Try.ntmps45
 go_wp2_with fail
 refine (dZ g l _ h true HB.out).mono ?_;rintro e w' ⟨rfl,rfl⟩;go_wp2;go_ret;exact ⟨ae,rfl⟩
def iu(w:World)(g:Nat)(l:List Int)(e:Ending)(w':World):Prop:=e=.returned (.bool true)/\c5 w' g l/\But g w.heap.size w w'
theorem gm(g:Nat)(l:List Int)(r:Int)(w:World)(h:c5 w g l)(hl:l.length<16):Calls Try.prog 45 #[.pointer (some ⟨g,0,none⟩),.int .i32 r] w (iu w g (l++[r])):=by
 have hb:((l.length:Int) == 16)=false:=by simp;omega
 have HB:=aa hb;have c0:=h.cell 0 _ rfl;have f0:=h.free 0;have f1:=h.free (1+l.length);obtain ⟨x1,hx1⟩ : ∃ x,w.cell? ⟨g,1+l.length,none⟩=some x:=⟨_,h.cell (1+l.length) ((aw l)[1+l.length]'(by rw [aO l (by omega)];omega)) (List.getElem?_eq_getElem _)⟩;have hfin:∀ W,Has W g (aw l) 53->c5 ((W.setCell ⟨g,1+l.length,none⟩ (.int .i32 r)).setCell ⟨g,0,none⟩ (.int .i64 ((l.length:Int)+1))) g (l++[r])/\But g W.heap.size W ((W.setCell ⟨g,1+l.length,none⟩ (.int .i32 r)).setCell ⟨g,0,none⟩ (.int .i64 ((l.length:Int)+1))):=fun W h=>by
  have:=(h.set (1+l.length) (.int .i32 r)).set 0 (.int .i64 ((l.length:Int)+1));rw [ij l r hl] at this;exact ⟨this,((But.refl _ _ _).set _ _).set _ _⟩
 have HF:=aa hfin;clear hfin;have HH:=aa h;have b0:(0:Int)<=(l.length:Int):=by omega
 have b1:(l.length:Int)<16:=by omega
 clear hb h
 go_enter Try.func45,Try.ntmps45
 go_wp2_with fail
 refine (dZ g l _ HH.out false HB.out).mono ?_;rintro e w' ⟨rfl,rfl⟩;go_wp2
 go_still_tail 9,(by kernel_rfl)
 go_wp2;go_ret;exact ⟨ae,(HF.out w HH.out).1,(HF.out w HH.out).2.drew⟩
theorem ey(g:Nat)(l:List Int)(w:World)(h:c5 w g l)(hl:l.length<=16):Calls Try.prog 32 #[.pointer (some ⟨g,0,none⟩)] w (em 21 .i32 w l):=by
 have c0:=h.cell 0 _ rfl;have hh:Held .i32 w.drew (.slice (some ⟨g,1,none⟩) l.length 16) l:=en (show g<w.drew.heap.size from h.lt) (fun i hi=>it w g l h i hi);have b0:(0:Int)<=(l.length:Int):=by omega
 have b1:(l.length:Int)<=16:=by omega
 have iI:=cD _ l w.drew hh (by omega);have kk:=aa iI;clear h hh iI
 go_enter Try.func32,Try.ntmps32
 go_wp2
 go_still_tail 8,(by kernel_rfl)
 go_wp2_with fail
 refine kk.out.mono ?_;rintro e w1 ⟨v1,rfl,ho,hb⟩;go_wp2;go_ret;exact ⟨_,rfl,ho,il hb⟩
theorem bV:(Try.prog.info? 53).map (·.size)=some 17:=by kernel_rfl
theorem bW(l:List Int):∀ v ∈ aw l,v.oneCell'=true:=by
 intro v hv
 rcases List.mem_cons.1 hv with rfl | hv
 ·rfl
 ·exact ints_oneCell .i32 (ex l) v hv
theorem ik(w:World):∃ W,W=(w.alloc (.cells #[Value.int .i64 0,.int .i32 0,.int .i32 0,.int .i32 0,.int .i32 0,.int .i32 0,.int .i32 0,.int .i32 0,.int .i32 0,.int .i32 0,.int .i32 0,.int .i32 0,.int .i32 0,.int .i32 0,.int .i32 0,.int .i32 0,.int .i32 0] 53)).alloc (.cells #[Value.int .i64 0,.int .i32 0,.int .i32 0,.int .i32 0,.int .i32 0,.int .i32 0,.int .i32 0,.int .i32 0,.int .i32 0,.int .i32 0,.int .i32 0,.int .i32 0,.int .i32 0,.int .i32 0,.int .i32 0,.int .i32 0,.int .i32 0] 53) /\
  c5 W w.heap.size []/\c5 W (w.heap.size+1) []/\Below w.heap.size w W/\W.heap.size=w.heap.size+2:=by
 refine ⟨_,rfl,(Has.new w _ _).alloc _,?_,(iF _ _).alloc (by simp) _,by simp⟩;have:=Has.new (w.alloc (.cells (aw []).toArray 53)) (aw []) 53;rw [World.size_alloc] at this;exact this
def iv(w:World)(l:List Int)(e:Ending)(w':World):Prop:=e=.returned (.agg (aw (l.take 16)).toArray)/\Below w.heap.size w w'
theorem fH(v:Value)(xs:List Int)(w:World)(hv:Held .i32 w v xs)(hl:xs.length<=1000000000):Calls Try.prog 31 #[v] w (iv w xs):=by
 obtain ⟨ao,cap,rfl,_⟩:=id hv.view;have HV:=aa hv;clear hv;have hend:∀ wr w',But w.heap.size wr.heap.size wr w'->Below w.heap.size w wr->Below w.heap.size w w':=fun wr w' h1 h2=>h2.trans (h1.below h2.size (Nat.le_refl _))
 have jn:=aa hend;clear hend
 go_enter Try.func31,Try.ntmps31
 go_wp2;obtain ⟨W,hW,h2,h3,hb,hsz⟩:=ik w;rw [<-hW];have kN:=aa hsz;have H2:=aa h2;have H3:=aa h3;obtain ⟨g,hg⟩:=ab (w.heap.size+1);have hgne:g≠w.heap.size:=by omega
 have HGE:=aa (show w.heap.size<=g by omega);rw [<-hg] at H3 ⊢;clear hW h2 h3 hsz hg
 go_loopw [8] (fun i wr=>∃ k:Nat,k<=xs.length/\k<=16/\i=.int .i64 k/\c5 wr g (xs.take k)/\c5 wr w.heap.size []/\Below w.heap.size w wr) (fun i _=>xs.length - (intOf i).toNat)
 case atStart=>exact ⟨0,Nat.zero_le _,Nat.zero_le _,rfl,H3.out,H2.out,hb⟩
 case round =>
  obtain ⟨k,hk,hk16,rfl,iI,kC,iN⟩:=hrel;have j4:(xs.take k).length=k:=by simp;omega
  by_cases hlt:k<xs.length
  ·obtain ⟨b,off,e1,hb1,hc⟩:=(HV.out.below iN).spots k hlt;subst e1;have hc':wr.cell? ⟨b,off+k,none⟩=some (.int .i32 (xs.getD k 0)):=hc;have jt:xs.take (k+1)=xs.take k++[xs.getD k 0]:=by rw [List.take_succ_eq_append_getElem hlt];simp [List.getD,List.getElem?_eq_getElem hlt]
   obtain ⟨x,hx0⟩:=ab (xs.getD k 0);rw [<-hx0] at hc' jt;have jV:=aa jt;clear hc hx0 jt
   by_cases h16:k<16
   ·have jr:=fun w' h=>gm g (xs.take k) x w' h (by omega)
    have HA:=aa jr;have HC:=aa iI;clear jr iI j4
    go_wp2_with fail
    refine (HA.out _ HC.out).mono ?_;rintro e w1 ⟨rfl,hcl1,jA⟩;have hr1:c5 w1 w.heap.size []:=kC.but jA kC.lt hgne.symm;have hb2:Below w.heap.size w w1:=iN.trans (jA.below iN.size HGE.out);rw [<-jV.out] at hcl1;go_wp2
    go_roundw
    case rel=>exact ⟨k+1,by omega,by omega,by go_num,hcl1,hr1,hb2⟩
    case measure=>simp [intOf] <;> omega
   ·have hk2:k=16:=by omega
    subst hk2;have jr:=fun w' h=>fG g (xs.take 16) x w' h (by omega)
    have HA:=aa jr;have HC:=aa iI;clear jr iI
    go_wp2_with fail
    refine (HA.out _ HC.out).mono ?_;rintro e w1 ⟨rfl,rfl⟩;have iI:=HC.out;obtain ⟨l,hl2⟩:=ab (xs.take 16);have HL:=aa (show l.length<=16 by rw [hl2];omega);rw [<-hl2] at iI;have HX:=aa hl2.symm;clear hl2 j4 HC jV
    go_wp2_with (first | (refine cd rfl 53 (.tmp 3) rfl g rfl 53 (aw l) _ 17 iI Try.underlying53 rfl bV (aO l HL.out) ?_) | (refine bt rfl 53 (.tmp 2) (.tmp 16) rfl w.heap.size rfl 53 (aw []) (aw l) 17 rfl kC bV rfl (aO l HL.out) (bW l) ?_;intro w9 kO kX))
    go_wp2;exact bodyPost_ret (v:=.agg (aw l).toArray) (df Try.results31 _ _ w.heap.size 53 (aw l) _ 17 rfl kO Try.underlying53 rfl bV (aO l HL.out)) rfl ⟨by rw [HX.out],jn.out _ _ kX iN⟩
  ·have hk2:k=xs.length:=by omega
   subst hk2;have hx16:xs.take 16=xs:=List.take_of_length_le hk16;rw [List.take_of_length_le (Nat.le_refl _)] at iI;obtain ⟨l,hl2⟩:=ab (xs);have HL:=aa (show l.length<=16 by rw [hl2];omega);have HX:=aa (hx16.trans hl2.symm);rw [<-hl2] at iI;clear hl2 j4 hx16
   go_wp2_with (first | (refine cd rfl 53 (.tmp 3) rfl g rfl 53 (aw l) _ 17 iI Try.underlying53 rfl bV (aO l HL.out) ?_) | (refine bt rfl 53 (.tmp 2) (.tmp 16) rfl w.heap.size rfl 53 (aw []) (aw l) 17 rfl kC bV rfl (aO l HL.out) (bW l) ?_;intro w9 kO kX))
   go_wp2;exact bodyPost_ret (v:=.agg (aw l).toArray) (df Try.results31 _ _ w.heap.size 53 (aw l) _ 17 rfl kO Try.underlying53 rfl bV (aO l HL.out)) rfl ⟨by rw [HX.out],jn.out _ _ kX iN⟩
end Go.Proofs.Ythdphijabffpiaa
