import Derived.Test.YthdphijabffpiaaDoorZ0
import Derived.Test.YthdphijabffpiaaDoorMg7
set_option maxRecDepth 100000
set_option linter.unusedVariables false
set_option linter.unusedSimpArgs false
set_option maxHeartbeats 4000000
namespace Go.Proofs.YthdphijabffpiaaDoor
open Go.RowKit Go.ChangeShapes Go.WideShapes
theorem eS{Z Y:ak}{w:World}{B:Nat}{ty:TypeId}{v:Value}{vs:List (Value × Bool)}(h:OwnE rlE Z w B ty v vs):OwnE rlE Y w B ty v vs:=by
 obtain ⟨CS,h1,h2,h3⟩:=h;exact ⟨CS,h1,h2,fun i hi=>h3 i hi⟩
theorem gB(wd:Nat)(X:List Cl)(i c m3:Nat)(Ls:List Ln)(C S:List Cl)(h:aJ wd X (i+1)=if wd<c+m3 then (Ls++[aS wd C true],S) else (Ls,C++S))(hf:wd<c+m3):(Ls++[aS wd C true],[]++S)=aJ wd X (i+1):=by rw [h,if_pos hf];rfl
theorem eH(v:Value)(X:List Cl)(w0:Int)(w:World)(hv:HeldE cellE (fun b=>b<w.heap.size) w v X)(hl:X.length<=1000000):Calls Tryd.prog 31 #[v,.int .i64 w0] w (fun e w'=>∃ u,e=.returned u/\HeldE lineE (fun b=>w.heap.size<=b) w' u (aL (wdN w0) X)/\Below w.heap.size w w'):=by
 obtain ⟨ao,cap,rfl⟩:=hv.len;obtain ⟨gT,gS,jt⟩:=az hv;clear gT;have iG:=aa jt;obtain ⟨n,hn⟩:=ab (X.length);have HN:=aa hn;rw [<-hn] at hl gS ⊢;obtain ⟨wd,hwd⟩:=ab (wdN w0);have jn:max 1 (min w0 1024)=(wd:Int):=by rw [hwd];unfold wdN;omega
 have gP:1<=wd:=by rw [hwd];unfold wdN;omega
 have jU:wd<=1024:=by rw [hwd];unfold wdN;omega
 rw [<-hwd];obtain ⟨i0,hi,hz0,hz1,hz2⟩:=info_parts bh;have HI:=aa (And.intro hi (And.intro hz0 (And.intro hz1 hz2)));clear jt hn hwd hv hi hz0 hz1 hz2
 go_enter Tryd.func31,Tryd.ntmps31
 go_upto_region 3 with (fail)
 try rw [jn]
 clear jn
 go_upto_region 4 with (at_make;refine wpList_make_full w rfl (.tmp 14) (.tmp 14) 28 rfl w.heap.size 74 i0 (.agg #[.int .i64 0,.slice none 0 0]) 2 Tryd.underlying28 HI.out.1 HI.out.2.1 HI.out.2.2.1 .i64 .i64 _ _ wd rfl rfl rfl rfl (by rw [HI.out.2.2.2];omega) (by unfold maxLen;omega) (Nat.le_refl _) ?_;intro w1 hown1 hg1)
 have hb1:Below w.heap.size w w1:=(Below.refl _ _).grown hg1 (Nat.le_refl _) (by intro k hk;cases hk);obtain ⟨w2,hw2⟩:=ab (w1.alloc (.cells [rbv w.heap.size wd,.bool false].toArray 30));have hb2:Below w1.heap.size w1 w2:=by rw [hw2];exact af _ _
 have kn:=bG (Z:=fun _=>True) hown1;have kk:=aa (show RbSt w w1.heap.size 1 w.heap.size wd [] [] [] w2 from by
  have hlt:=(kn.lt w.heap.size rfl).2;refine ⟨?_,rfl,fun j hj=>absurd hj (Nat.not_lt_zero _),?_,by omega,Nat.zero_le _,hb1.trans (hb2.mono hb1.size)⟩
  ·rw [hw2];exact OwnE.lit w1 rlE [[rbv w.heap.size wd,.bool false]] [(rbv w.heap.size wd,false)] 1 rfl rfl hb1.size (by decide) (fun i hi=>match i,hi with | 0,_=>⟨rfl,rfl⟩) _ rfl
  ·have h:=(bG (Z:=fun b=>w.heap.size<=b/\b≠w1.heap.size) hown1).below hb2;exact h)
 have HW2:=aa (show w1.alloc (.cells #[rbv w.heap.size wd,.bool false] 30)=w2 from by rw [hw2]);clear hw2 hb1 hb2 kn hown1 hg1;rw [HW2.out];obtain ⟨g0,hg0⟩:=ab (w1.heap.size);rw [<-hg0] at kk ⊢;clear hg0 HW2;go_wp2
 go_loopw [5,6,7,8] (fun nv uv ov iv wr=>∃ (i g cap2 gl m c:Nat) (vs0:List (Value × Bool)) (Ls:List Ln) (C:List Cl),i<=n/\nv=.int .i64 ((m:Int)+1)/\uv=.int .i64 (c:Int)/\ov=.slice (some ⟨g,0,none⟩) (m+1) cap2/\iv=.int .i64 i/\Hid (m=vs0.length/\c=C.length/\(Ls,C)=aJ wd X i/\RbSt w g cap2 gl wd vs0 Ls C wr)) (fun _ _ _ iv _=>n - (intOf iv).toNat)
 case atStart=>exact ⟨0,g0,1,w.heap.size,0,0,[],[],[],Nat.zero_le _,rfl,rfl,rfl,rfl,aa ⟨rfl,rfl,rfl,kk.out⟩⟩
 case round =>
  clear kk;obtain ⟨i,g,cap2,gl,m,c,vs0,Ls,C,hi,rfl,rfl,rfl,rfl,HST⟩:=hrel;obtain ⟨wp,jF⟩:=ab (wr);subst jF;have kt:=bk wd X gP i;rw [<-HST.out.2.2.1] at kt;simp only at kt;have HM:=aa HST.out.1;have HC:=aa HST.out.2.1;have HK:=aa HST.out.2.2.1;have HR:=aa HST.out.2.2.2;have hcw:c<=wd:=by rw [HC.out];exact kt.1
  have hmi:m<=i:=by rw [HM.out,HR.out.2.1];exact kt.2
  clear HST kt
  by_cases g9:i<n
  ·have d1:(i:Int)<(n:Int):=by omega
   have d1b:decide ((i:Int)<(n:Int))=true:=ag (by omega);obtain ⟨b,off,tv,e0,hb,_,c0,c1,hh⟩:=iG.out i (by rw [<-HN.out];exact g9);subst e0;obtain ⟨⟨K,T⟩,gK⟩ : ∃ y,y=X.getD i zc:=⟨_,rfl⟩;rw [<-gK] at c0 hh;simp only at c0 hh;obtain ⟨tx,tc,etv⟩:=hh.len;subst etv;have gF:=HR.out.2.2.2.2.2.2;have e0:=aD ((gF.cell (p:=⟨b,off+i * 2,none⟩) hb).trans c0);have e1:=aD ((gF.cell (p:=⟨b,off+i * 2+1,none⟩) hb).trans c1);have le:=aa (show ∀ u:Growth wp,_ from fun u=>fI (fun b=>wp.heap.size<=b) (fun b=>b<w.heap.size) K (.slice tx T.length tc) T (ext wp u) (fun b hb=>Nat.le_trans u.ok.size hb) ((hh.below gF).below u.ok));have jR:=aa (show ay wd (X.getD i zc)=if wd<(ofC K T).length then ofC 1 [65533] else ofC K T from by rw [<-gK];rfl);have lH:i<cap:=by omega
   clear gK hb hh gF c0 c1
   go_upto_region 7 with (fail)
   refine a8 10 (by kernel_rfl) (by simp) (by kernel_rfl) (by kernel_rfl) (by kernel_rfl) (by kernel_rfl) (by kernel_rfl) ?_;simp only [List.take_succ_cons,List.take_zero,List.drop_succ_cons,List.drop_zero]
   repeat (go_big_quiet_step ((fail)))
   refine wpQuiet_nil ?_;intro _ hw';obtain ⟨u,hw''⟩:=hw';subst hw''
   go_wp2_with fail
   refine (le.out u).mono ?_;rintro e w2 ⟨sv,rfl,ho,b2⟩;have hb2:Below wp.heap.size wp w2:=u.ok.trans (b2.mono u.ok.size);have ho:=ho.base (B':=wp.heap.size) u.ok.size;obtain ⟨g1,hg1⟩:=ab (wp.heap.size);rw [<-hg1] at ho;have hs0:=ho.held (Z:=fun b=>g1<=b) (fun b hb _=>hb);obtain ⟨so,sk,esv⟩:=hs0.len;obtain ⟨sn,jI⟩:=ab ((ofC K T).length);have jA:=eh K T;rw [<-jI] at esv jA;have jm:=aa jI;subst esv;have iA:=aa ho;have HR2:=aa (HR.out.below hb2);have iC:=aa (show g1<=w2.heap.size from by rw [hg1];exact hb2.size);have kD:=aa (show w.heap.size<=g1/\g<g1/\gl<g1 from by rw [hg1];exact ⟨HR.out.2.2.2.2.2.2.size,(HR.out.1.lt g rfl).2,(HR.out.2.2.2.1.lt gl rfl).2⟩);clear jI hg1 ho hs0 b2 hb2 e0 e1 le HR
   go_upto_if 38 with (fail)
   go_cut [9] from 38 to 41 (fun tv wx=>∃ o m3 c3,tv=.slice o m3 c3/\m3=(ay wd (X.getD i zc)).length/\HeldE cellE (fun b=>g1<=b) wx (.slice o m3 c3) (ay wd (X.getD i zc))/\Below w2.heap.size w2 wx)
   case first =>
    by_cases hlt:wd<sn
    ·have d3:decide ((wd:Int)<(sn:Int))=true:=ag (by omega);have d4:(wd:Int)<(sn:Int):=by omega
     have HE:=aa (show ay wd (X.getD i zc)=[(1,[65533])] from (jR.out.trans (if_pos (by rw [<-jm.out];exact hlt))).trans (by decide));obtain ⟨Wt,iX⟩:=ab (w2.alloc (.cells [Value.int .i32 65533].toArray 21));have bt:Below w2.heap.size w2 Wt:=by rw [iX];exact af _ _
     have ht:HeldE (aR .i32) (fun b=>g1<=b) Wt (.slice (some ⟨w2.heap.size,0,none⟩) 1 1) [65533]:=by rw [iX];exact aB (Y:=fun _=>False) [.int .i32 65533] 65533 rfl (fun _ _ h=>h.elim) iC.out
     have kB:=aa (show w2.alloc (.cells #[Value.int .i32 65533] 21)=Wt from by rw [iX]);obtain ⟨Wu,kY⟩:=ab (Wt.alloc (.cells #[.int .i64 1,.slice (some ⟨w2.heap.size,0,none⟩) 1 1] 74));have hs:=bm (B:=g1) (fun b=>g1<=b) Wt 1 _ [65533] ht (Nat.le_trans iC.out bt.size);rw [<-kY] at hs;have bu:Below Wt.heap.size Wt Wu:=by rw [kY];exact af _ _
     have HWU:=aa kY.symm;have hsz:Wt.heap.size=w2.heap.size+1:=by rw [iX];exact Array.size_push _
     rw [hsz] at hs;have HF:=aa (And.intro (hs.held (Z:=fun b=>g1<=b) (fun b hb _=>hb)) (bt.trans (bu.mono bt.size)));clear hsz hlt iX bt ht kY hs bu;go_wp2;rw [kB.out,HWU.out];go_meet
     case rel=>exact ⟨_,1,1,rfl,by rw [HE.out];rfl,by rw [HE.out];exact HF.out.1,HF.out.2⟩
    ·have d3:decide ((wd:Int)<(sn:Int))=false:=ah (by omega);have d4:¬ (wd:Int)<(sn:Int):=by omega
     have HE:=aa (show ay wd (X.getD i zc)=ofC K T from jR.out.trans (if_neg (by rw [<-jm.out];exact hlt)));have HF:=aa (iA.out.held (Z:=fun b=>g1<=b) (fun b hb _=>hb));clear hlt;go_wp2;go_meet
     case rel=>exact ⟨so,sn,sk,rfl,by rw [HE.out];exact jm.out,by rw [HE.out];exact HF.out,Below.refl _ _⟩
   case rest =>
    obtain ⟨o3,m3,k3,rfl,iu,jV,hb3⟩:=hcut;obtain ⟨w3,hw3⟩:=ab (wc);subst hw3;obtain ⟨S,hS⟩:=ab (ay wd (X.getD i zc));have HSE:=aa hS;rw [<-hS] at iu jV;have hsw:m3<=wd/\1<=m3:=by rw [iu,hS];have:=cf wd (X.getD i zc) gP;omega
    have j6:=aa iu;have ja:=aa jV;have kE:=aa (HR2.out.below hb3);have iS:=aa (Nat.le_trans iC.out hb3.size);have kx:aJ wd X (i+1)=if wd<c+m3 then (Ls++[aS wd C true],S) else (Ls,C++S):=by
     show (if wd<(aJ wd X i).2.length+(ay wd (X.getD i zc)).length then _ else _)=_;rw [<-HK.out,<-hS,iu,HC.out]
    have kl:=aa kx;clear hS iu jV hb3 kx jR jm iA HR2 iC
    go_upto_if 47 with (fail)
    go_cut [5,6,7] from 47 to 60 (fun nv uv ov wx=>∃ (g cap2 gl m c:Nat) (vs0:List (Value × Bool)) (Ls:List Ln) (C:List Cl),nv=.int .i64 ((m:Int)+1)/\uv=.int .i64 (c:Int)/\ov=.slice (some ⟨g,0,none⟩) (m+1) cap2/\c+m3<=wd/\Hid (m=vs0.length/\c=C.length/\(Ls,C++S)=aJ wd X (i+1)/\RbSt w g cap2 gl wd vs0 Ls C wx/\HeldE cellE (fun b=>w.heap.size<=b/\b≠g/\b≠gl) wx (.slice o3 m3 k3) S))
    case first =>
     by_cases hfit:wd<c+m3
     ·have d5:decide ((wd:Int)<(c:Int)+(m3:Int))=true:=ag (by omega);have d6:(wd:Int)<(c:Int)+(m3:Int):=by omega
      have jy:=gm (i:=m) kE.out.1 (by rw [HM.out];simp);have jB:(vs0++[(rbv gl wd,false)]).getD m zrl=(rbv gl wd,false):=by rw [aX,HM.out,if_neg (Nat.lt_irrefl _),Nat.sub_self];rfl
      rw [jB] at jy;have x1:=jy.2.1;have f1:=jy.2.2;have hbnd:(m:Int)<(m:Int)+1:=by omega
      obtain ⟨wa,lE⟩:=ab (w3.setCell ⟨g,m * 2+1,none⟩ (.bool true));have lj:=aa lE.symm;have hu:=(Upd.refl (fun x=>x=g) w3).setCell (p:=⟨g,m * 2+1,none⟩) (.inl rfl) (.bool true);have iV:=gh (i:=m) kE.out.1 (by rw [HM.out];simp) true;rw [<-lE] at hu iV;rw [jB,show (vs0++[(rbv gl wd,false)]).set m (rbv gl wd,true)=vs0++[(rbv gl wd,true)] from by rw [HM.out,List.set_append_right _ _ (Nat.le_refl _),Nat.sub_self];rfl] at iV;have hcs:=kE.out.shut (b:=true) iV hu;obtain ⟨VS,lZ⟩:=ab (vs0++[(rbv gl wd,true)]);have k9:=aa (show VS.length=m+1 from by rw [lZ,HM.out];simp);rw [<-lZ] at hcs iV;have kh:=aa hcs;clear lZ hcs;have HGA:=aa (show g1<=wa.heap.size from Nat.le_trans iS.out hu.size);have hso2:HeldE cellE (fun b=>g1<=b) wa (.slice o3 m3 k3) S:=ja.out.upd hu (fun b hz e=>by have:=kD.out;omega);have jq:=aa hso2;have HBN2:=aa (gB wd X i c m3 Ls C S kl.out hfit);clear jy jB lE hu iV hso2 hfit
      go_upto_region 12 with (fail)
      rw [lj.out];clear x1 f1;obtain ⟨ga,lT⟩:=ab (wa.heap.size);have HGAE:=aa lT;clear lT
      go_wp2_with (at_make;refine wpList_make_full wa rfl (.tmp 54) (.tmp 54) 28 rfl wa.heap.size 74 i0 (.agg #[.int .i64 0,.slice none 0 0]) 2 Tryd.underlying28 HI.out.1 HI.out.2.1 HI.out.2.2.1 .i64 .i64 _ _ wd rfl rfl rfl rfl (by rw [HI.out.2.2.2];omega) (by unfold maxLen;omega) (Nat.le_refl _) ?_)
      intro w4 hown4 hg4;have hb4:Below wa.heap.size wa w4:=(Below.refl _ _).grown hg4 (Nat.le_refl _) (by intro k hk;cases hk);have jk:=bG (Z:=fun _=>False) hown4;have gL:Below w4.heap.size w4 (w4.alloc (.cells [rbv wa.heap.size wd,.bool false].toArray 30)):=af _ _;have hgl4:=(jk.lt wa.heap.size rfl).2;have hgw:g<wa.heap.size:=(kh.out.1.lt g rfl).2;have gW:OwnE rlE (fun _=>True) (w4.alloc (.cells [rbv wa.heap.size wd,.bool false].toArray 30)) w.heap.size 30 (.slice (some ⟨g,0,none⟩) (m+1) cap2) VS:=by
       have h:=kh.out.1;rw [show VS.length=m+1 from k9.out] at h;exact eS ((h.below hb4).below gL)
      have lY:=aa gW;have HX5:=aa (aB (E:=rlE) (w:=w4) (ty:=30) (Y:=fun _=>False) (Z:=fun b=>True/\(Value.slice (some ⟨g,0,none⟩) (m+1) cap2).ownBlock≠some b) [rbv wa.heap.size wd,.bool false] (rbv wa.heap.size wd,false) ⟨rfl,rfl⟩ (fun _ _ h=>h.elim) ⟨trivial,fun e=>absurd (Option.some.inj (show some g=some w4.heap.size from e)) (by omega)⟩);have g2:=aa hb4;have HO4:=aa jk;have hU:=aa gL;have jH:=aa (show VS.length<=1000001 from by rw [k9.out];omega);have kR:=aa (show w.heap.size<=(w4.alloc (.cells [rbv wa.heap.size wd,.bool false].toArray 30)).heap.size from Nat.le_trans kh.out.2.2.2.size (Nat.le_trans hb4.size gL.size));clear hown4 hg4 hb4 jk gL gW
      go_wp2_with (at_builtin;refine ai (E:=rlE) (Z:=fun _=>True) rfl (.tmp 53) (.tmp 57) 22 rfl (.agg #[.slice none 0 0,.bool false]) 32 Tryd.underlying22 ge rfl (by decide) rfl rfl lY.out HX5.out (by have:=jH.out;simp at this ⊢;omega) (by have:=jH.out;simp at this ⊢;omega) kR.out ?_)
      intro v6 w6 ie iq kc kf;obtain ⟨g',cap',e6,jN⟩:=kh.out.open (g2.out.trans (hU.out.mono g2.out.size)) (HO4.out.below hU.out) (eS ie) kc (fun b hb1 hne=>kf b (by simpa using hb1) hne) iq;rw [show VS.length+1=m+1+1 from by rw [k9.out]] at e6;subst e6;have kw:HeldE cellE (fun b=>w.heap.size<=b/\b≠g'/\b≠wa.heap.size) w6 (.slice o3 m3 k3) S:=by
       refine (((jq.out.zone (Y:=fun b=>g1<=b/\b<wa.heap.size) (fun b hb1 hz=>⟨hz,hb1⟩)).below g2.out).below hU.out).keep (kc.mono (fun b _ hz e=>by have:g=b:=Option.some.inj (show some g=some b from e);have:=kD.out;omega)) (fun b hb1 hz=>⟨Nat.le_trans kD.out.1 hz.1,fun e=>?_,by omega⟩);subst e;exact kf b (by have:=g2.out.size;omega) (fun e=>by have:g=b:=Option.some.inj (show some g=some b from e);have:=kD.out;omega) rfl
      have HF:=aa (show m+1=VS.length/\0=([]:List Cl).length/\(Ls++[aS wd C true],[]++S)=aJ wd X (i+1)/\RbSt w g' cap' wa.heap.size wd VS (Ls++[aS wd C true]) [] w6/\HeldE cellE (fun b=>w.heap.size<=b/\b≠g'/\b≠wa.heap.size) w6 (.slice o3 m3 k3) S from ⟨k9.out.symm,rfl,HBN2.out,jN,kw⟩);clear ie iq kc kf jN kw hgl4 hgw;go_wp2;go_meet
      case rel=>exact ⟨g',cap',wa.heap.size,m+1,0,_,_,[],by go_num,rfl,rfl,by omega,HF⟩
     ·have d5:decide ((wd:Int)<(c:Int)+(m3:Int))=false:=ah (by omega);have d6:¬ (wd:Int)<(c:Int)+(m3:Int):=by omega
      have HF:=aa (show m=vs0.length/\c=C.length/\(Ls,C++S)=aJ wd X (i+1)/\RbSt w g cap2 gl wd vs0 Ls C w3/\HeldE cellE (fun b=>w.heap.size<=b/\b≠g/\b≠gl) w3 (.slice o3 m3 k3) S from ⟨HM.out,HC.out,by rw [kl.out,if_neg hfit],kE.out,ja.out.zone (fun b _ hz=>by have:=kD.out;omega)⟩);have hfit2:c+m3<=wd:=by omega
      clear hfit;go_wp2;go_meet
      case rel=>exact ⟨g,cap2,gl,m,c,vs0,Ls,C,rfl,rfl,rfl,hfit2,HF⟩
    case rest =>
     obtain ⟨g',cap',gl',m',c',vs',Ls',C',rfl,rfl,rfl,hcm,HQ⟩:=hcut;obtain ⟨wq,lJ⟩:=ab (wc);subst lJ;have HKN:=aa HQ.out.2.2.1;have kZ:=aa HQ.out.1;have kb:=aa HQ.out.2.1;have lQ:=aa (And.intro HQ.out.2.2.2.1 HQ.out.2.2.2.2);have hmn9:m'<=1000002:=by
      have h1:=bk wd X gP (i+1);rw [<-HKN.out] at h1;rw [kZ.out,lQ.out.1.2.1];have:=h1.2;simp only at this;omega
     clear HQ HM HC HK kE iS ja kl;go_wp2
     go_loopw [10] (fun kv wr=>∃ k:Nat,k<=m3/\kv=.int .i64 k/\Hid (RbSt w g' cap' gl' wd vs' Ls' (C'++S.take k) wr/\HeldE cellE (fun b=>w.heap.size<=b/\b≠g'/\b≠gl') wr (.slice o3 m3 k3) S)) (fun kv _=>m3 - (intOf kv).toNat)
     case atStart=>exact ⟨0,Nat.zero_le _,rfl,aa (by rw [List.take_zero,List.append_nil];exact lQ.out)⟩
     case round =>
      clear lQ;obtain ⟨k,hk,rfl,HS⟩:=hrel;obtain ⟨ws,hws⟩:=ab (wr);subst hws
      by_cases jw:k<m3
      ·have d7:decide ((k:Int)<(m3:Int))=true:=ag (by omega);have d8:(k:Int)<(m3:Int):=by omega
       have lX:k<S.length:=by rw [<-j6.out];exact jw
       obtain ⟨hxx,hsc,hsat⟩:=az HS.out.2;clear hxx;obtain ⟨b2,off2,tv2,e2,hb2,hz2,y0,y1,it⟩:=hsat k lX;subst e2;obtain ⟨⟨K2,T2⟩,jY⟩ : ∃ y,y=S.getD k zc:=⟨_,rfl⟩;rw [<-jY] at y0 it;simp only at y0 it;have s0:=aD y0;have s1:=aD y1;have jy:=gm (i:=m') HS.out.1.1 (by rw [kZ.out];simp);rw [show (vs'++[(rbv gl' wd,false)]).getD m' zrl=(rbv gl' wd,false) from by rw [aX,kZ.out,if_neg (Nat.lt_irrefl _),Nat.sub_self];rfl] at jy;have s2:=aD jy.1;obtain ⟨q,hq⟩:=ab (c'+k);have hqw:IntKind.i64.wrap ((c':Int)+(k:Int))=(q:Int):=by rw [IntKind.wrap_i64];omega
       have hqd:q<wd:=by omega
       have hqd1:(q:Int)<(wd:Int):=by omega
       have hbnd:(m':Int)<(m':Int)+1:=by omega
       have hmw:IntKind.i64.wrap ((m':Int)+1 - 1)=(m':Int):=by rw [IntKind.wrap_i64];omega
       have ji:k<k3:=by omega
       have HHT:=aa it;have HSX:=aa (show ay wd (X.getD i zc)=S from HSE.out.symm);have kL:=aa (show (C'++S.take k).length=q from by rw [List.length_append,List.length_take,Nat.min_eq_left (by omega),<-kb.out,hq]);have HTK:=aa (show C'++S.take (k+1)=(C'++S.take k)++[(K2,T2)] from by
        rw [List.take_succ_eq_append_getElem lX,List.append_assoc];have:S.getD k zc=S[k]:=by simp [List.getD,List.getElem?_eq_getElem lX]
        rw [<-this,<-jY])
       clear jy y0 y1 it jY hsat hq hb2 hz2
       go_upto_region 18 with (fail)
       refine a8 14 (by kernel_rfl) (by simp) (by kernel_rfl) (by kernel_rfl) (by kernel_rfl) (by kernel_rfl) (by kernel_rfl) ?_;simp only [List.take_succ_cons,List.take_zero,List.drop_succ_cons,List.drop_zero]
       repeat (go_big_quiet_step ((fail)))
       refine wpQuiet_nil ?_;intro _ hw';obtain ⟨u,hw''⟩:=hw';subst hw'';have lp:=aa (HS.out.1.below u.ok);have HHU:=aa ((HHT.out.below u.ok).zone (Y:=fun b=>(w.heap.size<=b/\b≠g')/\b≠gl') (fun b _ hz=>⟨⟨hz.1,hz.2.1⟩,hz.2.2⟩));have ja:=aa (HS.out.2.below u.ok);obtain ⟨CC,hCC⟩:=ab (C'++S.take k);rw [<-hCC] at lp kL HTK;obtain ⟨LL,k8⟩:=ab (CC++List.replicate (wd - CC.length) zc);have HLL:=aa k8;have gW:=lp.out.2.2.2.1.each;rw [<-k8] at gW;have HOE:=aa gW;have hql:q<LL.length:=by rw [k8,List.length_append,List.length_replicate,kL.out];omega
       have HQ1:=aa hql;clear hql HS HHT s0 s1 s2 hCC k8 gW
       go_wp2_with (refine dF (E:=cellE) (Y:=fun b=>w.heap.size<=b/\b≠g') (i:=q) rfl 74 (.tmp 80) (.tmp 79) rfl rfl rfl [.int .i64 K2,tv2] rfl (by kernel_rfl) HOE.out HQ1.out (K2,T2) (cell_rep.2 ⟨_,rfl,HHU.out⟩) ?_)
       intro w5 lA lw;have hlt5:CC.length<wd:=by rw [kL.out];exact hqd
       rw [show q=CC.length from kL.out.symm,HLL.out] at lA;have lM:=lp.out.put (K2,T2) hlt5 lA (fun j b _ hz=>by first | exact hz | (split at hz <;> exact hz)) lw;rw [<-HTK.out] at lM;have HF:=aa (And.intro lM (ja.out.upd lw (fun b hz e=>hz.2.2 e)));clear lA lw hlt5 lM;go_wp2
       go_roundw
       case rel=>exact ⟨k+1,by omega,by go_num,HF⟩
       case measure=>simp [intOf] <;> omega
      ·obtain rfl:k=m3:=by omega
       have d7:decide ((k:Int)<(k:Int))=false:=ah (by omega);have d8:¬ (k:Int)<(k:Int):=by omega
       have hcw2:IntKind.i64.wrap ((c':Int)+(k:Int))=((c'+k:Nat):Int):=by rw [IntKind.wrap_i64];omega
       have HF:=aa (show m'=vs'.length/\c'+k=(C'++S).length/\(Ls',C'++S)=aJ wd X (i+1)/\RbSt w g' cap' gl' wd vs' Ls' (C'++S) ws from ⟨kZ.out,by rw [List.length_append,<-kb.out,<-j6.out],HKN.out,by have h:=HS.out.1;rw [j6.out,List.take_length] at h;exact h⟩);clear jw HS;go_wp2
       go_roundw
       case rel=>exact ⟨i+1,g',cap',gl',m',c'+k,vs',Ls',C'++S,by omega,rfl,by go_num,rfl,by go_num,HF⟩
       case measure=>simp [intOf] <;> omega
  ·obtain rfl:i=n:=by omega
   have d1:¬ (i:Int)<(i:Int):=by omega
   have d1b:decide ((i:Int)<(i:Int))=false:=ah (by omega);have HF:=aa (show HeldE lineE (fun b=>w.heap.size<=b) wp (.slice (some ⟨g,0,none⟩) (m+1) cap2) (aL wd X)/\Below w.heap.size w wp from by
    have h:=(HR.out.shut (b:=false) HR.out.1 (Upd.refl _ _)).held;rw [show (vs0++[(rbv gl wd,false)]).length=m+1 from by rw [HM.out];simp] at h;refine ⟨?_,HR.out.2.2.2.2.2.2⟩;unfold aL;rw [<-HN.out,<-HK.out];exact h)
   clear g9 HR HK;go_wp2;go_ret;exact ⟨_,rfl,HF.out.1,HF.out.2⟩
end Go.Proofs.YthdphijabffpiaaDoor
