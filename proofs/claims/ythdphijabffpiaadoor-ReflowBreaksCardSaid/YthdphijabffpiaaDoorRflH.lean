import Derived.Test.YthdphijabffpiaaDoorZ0
import Derived.Test.YthdphijabffpiaaDoorMg7
set_option maxRecDepth 100000
set_option linter.unusedVariables false
set_option linter.unusedSimpArgs false
set_option maxHeartbeats 4000000
namespace Go.Proofs.YthdphijabffpiaaDoor
open Go.RowKit Go.ChangeShapes Go.WideShapes
theorem fB{Z Y:aj}{w:World}{B:Nat}{ty:TypeId}{v:Value}{vs:List (Value × Bool)}(h:OwnE rlE Z w B ty v vs):OwnE rlE Y w B ty v vs:=by
 obtain ⟨CS,h1,h2,h3⟩:=h;exact ⟨CS,h1,h2,fun i hi=>h3 i hi⟩
theorem gU(wd:Nat)(X:List Cl)(i c m3:Nat)(Ls:List Ln)(C S:List Cl)(h:aZ wd X (i+1)=if wd<c+m3 then (Ls++[bH wd C true],S) else (Ls,C++S))(hf:wd<c+m3):(Ls++[bH wd C true],[]++S)=aZ wd X (i+1):=by rw [h,if_pos hf];rfl
theorem fh(v:Value)(X:List Cl)(w0:Int)(w:World)(hv:HeldE cellE (fun b=>b<w.heap.size) w v X)(hl:X.length<=1000000):Calls Tryd.prog 31 #[v,.int .i64 w0] w (fun e w'=>∃ u,e=.returned u/\HeldE lineE (fun b=>w.heap.size<=b) w' u (aR (wdN w0) X)/\Below w.heap.size w w'):=by
 obtain ⟨ao,cap,rfl⟩:=hv.len;obtain ⟨ij,il,kA⟩:=aB hv;clear ij;have j9:=aa kA;obtain ⟨n,hn⟩:=ab (X.length);have HN:=aa hn;rw [<-hn] at hl il ⊢;obtain ⟨wd,hwd⟩:=ab (wdN w0);have lJ:max 1 (min w0 1024)=(wd:Int):=by rw [hwd];unfold wdN;omega
 have iq:1<=wd:=by rw [hwd];unfold wdN;omega
 have k9:wd<=1024:=by rw [hwd];unfold wdN;omega
 rw [<-hwd];obtain ⟨i0,hi,hz0,hz1,hz2⟩:=info_parts bs;have HI:=aa (And.intro hi (And.intro hz0 (And.intro hz1 hz2)));clear kA hn hwd hv hi hz0 hz1 hz2
 go_enter Tryd.func31,Tryd.ntmps31
 go_upto_region 3 with (fail)
 try rw [lJ]
 clear lJ
 go_upto_region 4 with (at_make;refine wpList_make_full w rfl (.tmp 14) (.tmp 14) 28 rfl w.heap.size 74 i0 (.agg #[.int .i64 0,.slice none 0 0]) 2 Tryd.underlying28 HI.out.1 HI.out.2.1 HI.out.2.2.1 .i64 .i64 _ _ wd rfl rfl rfl rfl (by rw [HI.out.2.2.2];omega) (by unfold maxLen;omega) (Nat.le_refl _) ?_;intro w1 hown1 hg1)
 have hb1:Below w.heap.size w w1:=(Below.refl _ _).grown hg1 (Nat.le_refl _) (by intro k hk;cases hk);obtain ⟨w2,hw2⟩:=ab (w1.alloc (.cells [rbv w.heap.size wd,.bool false].toArray 30));have hb2:Below w1.heap.size w1 w2:=by rw [hw2];exact af _ _
 have lT:=bV (Z:=fun _=>True) hown1;have kE:=aa (show RbSt w w1.heap.size 1 w.heap.size wd [] [] [] w2 from by
  have hlt:=(lT.lt w.heap.size rfl).2;refine ⟨?_,rfl,fun j hj=>absurd hj (Nat.not_lt_zero _),?_,by omega,Nat.zero_le _,hb1.trans (hb2.mono hb1.size)⟩
  ·rw [hw2];exact OwnE.lit w1 rlE [[rbv w.heap.size wd,.bool false]] [(rbv w.heap.size wd,false)] 1 rfl rfl hb1.size (by decide) (fun i hi=>match i,hi with | 0,_=>⟨rfl,rfl⟩) _ rfl
  ·have h:=(bV (Z:=fun b=>w.heap.size<=b/\b≠w1.heap.size) hown1).below hb2;exact h)
 have HW2:=aa (show w1.alloc (.cells #[rbv w.heap.size wd,.bool false] 30)=w2 from by rw [hw2]);clear hw2 hb1 hb2 lT hown1 hg1;rw [HW2.out];obtain ⟨g0,hg0⟩:=ab (w1.heap.size);rw [<-hg0] at kE ⊢;clear hg0 HW2;go_wp2
 go_loopw [5,6,7,8] (fun nv uv ov iv wr=>∃ (i g cap2 gl m c:Nat) (vs0:List (Value × Bool)) (Ls:List Ln) (C:List Cl),i<=n/\nv=.int .i64 ((m:Int)+1)/\uv=.int .i64 (c:Int)/\ov=.slice (some ⟨g,0,none⟩) (m+1) cap2/\iv=.int .i64 i/\Hid (m=vs0.length/\c=C.length/\(Ls,C)=aZ wd X i/\RbSt w g cap2 gl wd vs0 Ls C wr)) (fun _ _ _ iv _=>n - (intOf iv).toNat)
 case atStart=>exact ⟨0,g0,1,w.heap.size,0,0,[],[],[],Nat.zero_le _,rfl,rfl,rfl,rfl,aa ⟨rfl,rfl,rfl,kE.out⟩⟩
 case round =>
  clear kE;obtain ⟨i,g,cap2,gl,m,c,vs0,Ls,C,hi,rfl,rfl,rfl,rfl,HST⟩:=hrel;obtain ⟨wp,lH⟩:=ab (wr);subst lH;have lP:=cq wd X iq i;rw [<-HST.out.2.2.1] at lP;simp only at lP;have HM:=aa HST.out.1;have HC:=aa HST.out.2.1;have HK:=aa HST.out.2.2.1;have HR:=aa HST.out.2.2.2;have hcw:c<=wd:=by rw [HC.out];exact lP.1
  have hmi:m<=i:=by rw [HM.out,HR.out.2.1];exact lP.2
  clear HST lP
  by_cases iQ:i<n
  ·have d1:(i:Int)<(n:Int):=by omega
   have d1b:decide ((i:Int)<(n:Int))=true:=ag (by omega);obtain ⟨b,off,tv,e0,hb,_,c0,c1,hh⟩:=j9.out i (by rw [<-HN.out];exact iQ);subst e0;obtain ⟨⟨K,T⟩,ic⟩ : ∃ y,y=X.getD i zc:=⟨_,rfl⟩;rw [<-ic] at c0 hh;simp only at c0 hh;obtain ⟨tx,tc,etv⟩:=hh.len;subst etv;have g3:=HR.out.2.2.2.2.2.2;have e0:=aw ((g3.cell (p:=⟨b,off+i * 2,none⟩) hb).trans c0);have e1:=aw ((g3.cell (p:=⟨b,off+i * 2+1,none⟩) hb).trans c1);have kB:=aa (show ∀ u:Growth wp,_ from fun u=>f8 (fun b=>wp.heap.size<=b) (fun b=>b<w.heap.size) K (.slice tx T.length tc) T (ext wp u) (fun b hb=>Nat.le_trans u.ok.size hb) ((hh.below g3).below u.ok));have kO:=aa (show aD wd (X.getD i zc)=if wd<(ofC K T).length then ofC 1 [65533] else ofC K T from by rw [<-ic];rfl);have lK:i<cap:=by omega
   clear ic hb hh g3 c0 c1
   go_upto_region 7 with (fail)
   refine bm 10 (by kernel_rfl) (by simp) (by kernel_rfl) (by kernel_rfl) (by kernel_rfl) (by kernel_rfl) (by kernel_rfl) ?_;simp only [List.take_succ_cons,List.take_zero,List.drop_succ_cons,List.drop_zero]
   repeat (go_big_quiet_step ((fail)))
   refine wpQuiet_nil ?_;intro _ hw';obtain ⟨u,hw''⟩:=hw';subst hw''
   go_wp2_with fail
   refine (kB.out u).mono ?_;rintro e w2 ⟨sv,rfl,ho,b2⟩;have hb2:Below wp.heap.size wp w2:=u.ok.trans (b2.mono u.ok.size);have ho:=ho.base (B':=wp.heap.size) u.ok.size;obtain ⟨g1,hg1⟩:=ab (wp.heap.size);rw [<-hg1] at ho;have hs0:=ho.held (Z:=fun b=>g1<=b) (fun b hb _=>hb);obtain ⟨so,sk,esv⟩:=hs0.len;obtain ⟨sn,k8⟩:=ab ((ofC K T).length);have kL:=eM K T;rw [<-k8] at esv kL;have ko:=aa k8;subst esv;have jO:=aa ho;have HR2:=aa (HR.out.below hb2);have kp:=aa (show g1<=w2.heap.size from by rw [hg1];exact hb2.size);have lV:=aa (show w.heap.size<=g1/\g<g1/\gl<g1 from by rw [hg1];exact ⟨HR.out.2.2.2.2.2.2.size,(HR.out.1.lt g rfl).2,(HR.out.2.2.2.1.lt gl rfl).2⟩);clear k8 hg1 ho hs0 b2 hb2 e0 e1 kB HR
   go_upto_if 38 with (fail)
   go_cut [9] from 38 to 41 (fun tv wx=>∃ o m3 c3,tv=.slice o m3 c3/\m3=(aD wd (X.getD i zc)).length/\HeldE cellE (fun b=>g1<=b) wx (.slice o m3 c3) (aD wd (X.getD i zc))/\Below w2.heap.size w2 wx)
   case first =>
    by_cases hlt:wd<sn
    ·have d3:decide ((wd:Int)<(sn:Int))=true:=ag (by omega);have d4:(wd:Int)<(sn:Int):=by omega
     have HE:=aa (show aD wd (X.getD i zc)=[(1,[65533])] from (kO.out.trans (if_pos (by rw [<-ko.out];exact hlt))).trans (by decide));obtain ⟨Wt,jX⟩:=ab (w2.alloc (.cells [Value.int .i32 65533].toArray 21));have bt:Below w2.heap.size w2 Wt:=by rw [jX];exact af _ _
     have ht:HeldE (be .i32) (fun b=>g1<=b) Wt (.slice (some ⟨w2.heap.size,0,none⟩) 1 1) [65533]:=by rw [jX];exact ax (Y:=fun _=>False) [.int .i32 65533] 65533 rfl (fun _ _ h=>h.elim) kp.out
     have l8:=aa (show w2.alloc (.cells #[Value.int .i32 65533] 21)=Wt from by rw [jX]);obtain ⟨Wu,mB⟩:=ab (Wt.alloc (.cells #[.int .i64 1,.slice (some ⟨w2.heap.size,0,none⟩) 1 1] 74));have hs:=bE (B:=g1) (fun b=>g1<=b) Wt 1 _ [65533] ht (Nat.le_trans kp.out bt.size);rw [<-mB] at hs;have bu:Below Wt.heap.size Wt Wu:=by rw [mB];exact af _ _
     have HWU:=aa mB.symm;have hsz:Wt.heap.size=w2.heap.size+1:=by rw [jX];exact Array.size_push _
     rw [hsz] at hs;have HF:=aa (And.intro (hs.held (Z:=fun b=>g1<=b) (fun b hb _=>hb)) (bt.trans (bu.mono bt.size)));clear hsz hlt jX bt ht mB hs bu;go_wp2;rw [l8.out,HWU.out];go_meet
     case rel=>exact ⟨_,1,1,rfl,by rw [HE.out];rfl,by rw [HE.out];exact HF.out.1,HF.out.2⟩
    ·have d3:decide ((wd:Int)<(sn:Int))=false:=ah (by omega);have d4:¬ (wd:Int)<(sn:Int):=by omega
     have HE:=aa (show aD wd (X.getD i zc)=ofC K T from kO.out.trans (if_neg (by rw [<-ko.out];exact hlt)));have HF:=aa (jO.out.held (Z:=fun b=>g1<=b) (fun b hb _=>hb));clear hlt;go_wp2;go_meet
     case rel=>exact ⟨so,sn,sk,rfl,by rw [HE.out];exact ko.out,by rw [HE.out];exact HF.out,Below.refl _ _⟩
   case rest =>
    obtain ⟨o3,m3,k3,rfl,jy,kZ,hb3⟩:=hcut;obtain ⟨w3,hw3⟩:=ab (wc);subst hw3;obtain ⟨S,hS⟩:=ab (aD wd (X.getD i zc));have mz:=aa hS;rw [<-hS] at jy kZ;have hsw:m3<=wd/\1<=m3:=by rw [jy,hS];have:=cF wd (X.getD i zc) iq;omega
    have lq:=aa jy;have kr:=aa kZ;have lG:=aa (HR2.out.below hb3);have kl:=aa (Nat.le_trans kp.out hb3.size);have lL:aZ wd X (i+1)=if wd<c+m3 then (Ls++[bH wd C true],S) else (Ls,C++S):=by
     show (if wd<(aZ wd X i).2.length+(aD wd (X.getD i zc)).length then _ else _)=_;rw [<-HK.out,<-hS,jy,HC.out]
    have ln:=aa lL;clear hS jy kZ hb3 lL kO ko jO HR2 kp
    go_upto_if 47 with (fail)
    go_cut [5,6,7] from 47 to 60 (fun nv uv ov wx=>∃ (g cap2 gl m c:Nat) (vs0:List (Value × Bool)) (Ls:List Ln) (C:List Cl),nv=.int .i64 ((m:Int)+1)/\uv=.int .i64 (c:Int)/\ov=.slice (some ⟨g,0,none⟩) (m+1) cap2/\c+m3<=wd/\Hid (m=vs0.length/\c=C.length/\(Ls,C++S)=aZ wd X (i+1)/\RbSt w g cap2 gl wd vs0 Ls C wx/\HeldE cellE (fun b=>w.heap.size<=b/\b≠g/\b≠gl) wx (.slice o3 m3 k3) S))
    case first =>
     by_cases hfit:wd<c+m3
     ·have d5:decide ((wd:Int)<(c:Int)+(m3:Int))=true:=ag (by omega);have d6:(wd:Int)<(c:Int)+(m3:Int):=by omega
      have kC:=gJ (i:=m) lG.out.1 (by rw [HM.out];simp);have kR:(vs0++[(rbv gl wd,false)]).getD m zrl=(rbv gl wd,false):=by rw [aT,HM.out,if_neg (Nat.lt_irrefl _),Nat.sub_self];rfl
      rw [kR] at kC;have x1:=kC.2.1;have f1:=kC.2.2;have hbnd:(m:Int)<(m:Int)+1:=by omega
      obtain ⟨wa,mS⟩:=ab (w3.setCell ⟨g,m * 2+1,none⟩ (.bool true));have m2:=aa mS.symm;have hu:=(Upd.refl (fun x=>x=g) w3).setCell (p:=⟨g,m * 2+1,none⟩) (.inl rfl) (.bool true);have j6:=gE (i:=m) lG.out.1 (by rw [HM.out];simp) true;rw [<-mS] at hu j6;rw [kR,show (vs0++[(rbv gl wd,false)]).set m (rbv gl wd,true)=vs0++[(rbv gl wd,true)] from by rw [HM.out,List.set_append_right _ _ (Nat.le_refl _),Nat.sub_self];rfl] at j6;have hcs:=lG.out.shut (b:=true) j6 hu;obtain ⟨VS,mO⟩:=ab (vs0++[(rbv gl wd,true)]);have kK:=aa (show VS.length=m+1 from by rw [mO,HM.out];simp);rw [<-mO] at hcs j6;have lh:=aa hcs;clear mO hcs;have HGA:=aa (show g1<=wa.heap.size from Nat.le_trans kl.out hu.size);have hso2:HeldE cellE (fun b=>g1<=b) wa (.slice o3 m3 k3) S:=kr.out.upd hu (fun b hz e=>by have:=lV.out;omega);have ju:=aa hso2;have HBN2:=aa (gU wd X i c m3 Ls C S ln.out hfit);clear kC kR mS hu j6 hso2 hfit
      go_upto_region 12 with (fail)
      rw [m2.out];clear x1 f1;obtain ⟨ga,kH⟩:=ab (wa.heap.size);have HGAE:=aa kH;clear kH
      go_wp2_with (at_make;refine wpList_make_full wa rfl (.tmp 54) (.tmp 54) 28 rfl wa.heap.size 74 i0 (.agg #[.int .i64 0,.slice none 0 0]) 2 Tryd.underlying28 HI.out.1 HI.out.2.1 HI.out.2.2.1 .i64 .i64 _ _ wd rfl rfl rfl rfl (by rw [HI.out.2.2.2];omega) (by unfold maxLen;omega) (Nat.le_refl _) ?_)
      intro w4 hown4 hg4;have hb4:Below wa.heap.size wa w4:=(Below.refl _ _).grown hg4 (Nat.le_refl _) (by intro k hk;cases hk);have jA:=bV (Z:=fun _=>False) hown4;have hO:Below w4.heap.size w4 (w4.alloc (.cells [rbv wa.heap.size wd,.bool false].toArray 30)):=af _ _;have hgl4:=(jA.lt wa.heap.size rfl).2;have hgw:g<wa.heap.size:=(lh.out.1.lt g rfl).2;have iO:OwnE rlE (fun _=>True) (w4.alloc (.cells [rbv wa.heap.size wd,.bool false].toArray 30)) w.heap.size 30 (.slice (some ⟨g,0,none⟩) (m+1) cap2) VS:=by
       have h:=lh.out.1;rw [show VS.length=m+1 from kK.out] at h;exact fB ((h.below hb4).below hO)
      have mP:=aa iO;have nd:=aa (ax (E:=rlE) (w:=w4) (ty:=30) (Y:=fun _=>False) (Z:=fun b=>True/\(Value.slice (some ⟨g,0,none⟩) (m+1) cap2).ownBlock≠some b) [rbv wa.heap.size wd,.bool false] (rbv wa.heap.size wd,false) ⟨rfl,rfl⟩ (fun _ _ h=>h.elim) ⟨trivial,fun e=>absurd (Option.some.inj (show some g=some w4.heap.size from e)) (by omega)⟩);have iI:=aa hb4;have HO4:=aa jA;have iM:=aa hO;have k6:=aa (show VS.length<=1000001 from by rw [kK.out];omega);have mD:=aa (show w.heap.size<=(w4.alloc (.cells [rbv wa.heap.size wd,.bool false].toArray 30)).heap.size from Nat.le_trans lh.out.2.2.2.size (Nat.le_trans hb4.size hO.size));clear hown4 hg4 hb4 jA hO iO
      go_wp2_with (at_builtin;refine ai (E:=rlE) (Z:=fun _=>True) rfl (.tmp 53) (.tmp 57) 22 rfl (.agg #[.slice none 0 0,.bool false]) 32 Tryd.underlying22 gD rfl (by decide) rfl rfl mP.out nd.out (by have:=k6.out;simp at this ⊢;omega) (by have:=k6.out;simp at this ⊢;omega) mD.out ?_)
      intro v6 w6 iW je kq kb;obtain ⟨g',cap',e6,hrb⟩:=lh.out.open (iI.out.trans (iM.out.mono iI.out.size)) (HO4.out.below iM.out) (fB iW) kq (fun b hb1 hne=>kb b (by simpa using hb1) hne) je;rw [show VS.length+1=m+1+1 from by rw [kK.out]] at e6;subst e6;have mf:HeldE cellE (fun b=>w.heap.size<=b/\b≠g'/\b≠wa.heap.size) w6 (.slice o3 m3 k3) S:=by
       refine (((ju.out.zone (Y:=fun b=>g1<=b/\b<wa.heap.size) (fun b hb1 hz=>⟨hz,hb1⟩)).below iI.out).below iM.out).keep (kq.mono (fun b _ hz e=>by have:g=b:=Option.some.inj (show some g=some b from e);have:=lV.out;omega)) (fun b hb1 hz=>⟨Nat.le_trans lV.out.1 hz.1,fun e=>?_,by omega⟩);subst e;exact kb b (by have:=iI.out.size;omega) (fun e=>by have:g=b:=Option.some.inj (show some g=some b from e);have:=lV.out;omega) rfl
      have HF:=aa (show m+1=VS.length/\0=([]:List Cl).length/\(Ls++[bH wd C true],[]++S)=aZ wd X (i+1)/\RbSt w g' cap' wa.heap.size wd VS (Ls++[bH wd C true]) [] w6/\HeldE cellE (fun b=>w.heap.size<=b/\b≠g'/\b≠wa.heap.size) w6 (.slice o3 m3 k3) S from ⟨kK.out.symm,rfl,HBN2.out,hrb,mf⟩);clear iW je kq kb hrb mf hgl4 hgw;go_wp2;go_meet
      case rel=>exact ⟨g',cap',wa.heap.size,m+1,0,_,_,[],by go_num,rfl,rfl,by omega,HF⟩
     ·have d5:decide ((wd:Int)<(c:Int)+(m3:Int))=false:=ah (by omega);have d6:¬ (wd:Int)<(c:Int)+(m3:Int):=by omega
      have HF:=aa (show m=vs0.length/\c=C.length/\(Ls,C++S)=aZ wd X (i+1)/\RbSt w g cap2 gl wd vs0 Ls C w3/\HeldE cellE (fun b=>w.heap.size<=b/\b≠g/\b≠gl) w3 (.slice o3 m3 k3) S from ⟨HM.out,HC.out,by rw [ln.out,if_neg hfit],lG.out,kr.out.zone (fun b _ hz=>by have:=lV.out;omega)⟩);have hfit2:c+m3<=wd:=by omega
      clear hfit;go_wp2;go_meet
      case rel=>exact ⟨g,cap2,gl,m,c,vs0,Ls,C,rfl,rfl,rfl,hfit2,HF⟩
    case rest =>
     obtain ⟨g',cap',gl',m',c',vs',Ls',C',rfl,rfl,rfl,hcm,HQ⟩:=hcut;obtain ⟨wq,mh⟩:=ab (wc);subst mh;have HKN:=aa HQ.out.2.2.1;have mJ:=aa HQ.out.1;have ly:=aa HQ.out.2.1;have li:=aa (And.intro HQ.out.2.2.2.1 HQ.out.2.2.2.2);have hmn9:m'<=1000002:=by
      have h1:=cq wd X iq (i+1);rw [<-HKN.out] at h1;rw [mJ.out,li.out.1.2.1];have:=h1.2;simp only at this;omega
     clear HQ HM HC HK lG kl kr ln;go_wp2
     go_loopw [10] (fun kv wr=>∃ k:Nat,k<=m3/\kv=.int .i64 k/\Hid (RbSt w g' cap' gl' wd vs' Ls' (C'++S.take k) wr/\HeldE cellE (fun b=>w.heap.size<=b/\b≠g'/\b≠gl') wr (.slice o3 m3 k3) S)) (fun kv _=>m3 - (intOf kv).toNat)
     case atStart=>exact ⟨0,Nat.zero_le _,rfl,aa (by rw [List.take_zero,List.append_nil];exact li.out)⟩
     case round =>
      clear li;obtain ⟨k,hk,rfl,HS⟩:=hrel;obtain ⟨ws,hws⟩:=ab (wr);subst hws
      by_cases kt:k<m3
      ·have d7:decide ((k:Int)<(m3:Int))=true:=ag (by omega);have d8:(k:Int)<(m3:Int):=by omega
       have nx:k<S.length:=by rw [<-lq.out];exact kt
       obtain ⟨hxx,hsc,hsat⟩:=aB HS.out.2;clear hxx;obtain ⟨b2,off2,tv2,e2,hb2,hz2,y0,y1,jd⟩:=hsat k nx;subst e2;obtain ⟨⟨K2,T2⟩,k7⟩ : ∃ y,y=S.getD k zc:=⟨_,rfl⟩;rw [<-k7] at y0 jd;simp only at y0 jd;have s0:=aw y0;have s1:=aw y1;have kC:=gJ (i:=m') HS.out.1.1 (by rw [mJ.out];simp);rw [show (vs'++[(rbv gl' wd,false)]).getD m' zrl=(rbv gl' wd,false) from by rw [aT,mJ.out,if_neg (Nat.lt_irrefl _),Nat.sub_self];rfl] at kC;have s2:=aw kC.1;obtain ⟨q,hq⟩:=ab (c'+k);have hqw:IntKind.i64.wrap ((c':Int)+(k:Int))=(q:Int):=by rw [IntKind.wrap_i64];omega
       have hqd:q<wd:=by omega
       have hqd1:(q:Int)<(wd:Int):=by omega
       have hbnd:(m':Int)<(m':Int)+1:=by omega
       have hmw:IntKind.i64.wrap ((m':Int)+1 - 1)=(m':Int):=by rw [IntKind.wrap_i64];omega
       have kc:k<k3:=by omega
       have HHT:=aa jd;have HSX:=aa (show aD wd (X.getD i zc)=S from mz.out.symm);have l6:=aa (show (C'++S.take k).length=q from by rw [List.length_append,List.length_take,Nat.min_eq_left (by omega),<-ly.out,hq]);have HTK:=aa (show C'++S.take (k+1)=(C'++S.take k)++[(K2,T2)] from by
        rw [List.take_succ_eq_append_getElem nx,List.append_assoc];have:S.getD k zc=S[k]:=by simp [List.getD,List.getElem?_eq_getElem nx]
        rw [<-this,<-k7])
       clear kC y0 y1 jd k7 hsat hq hb2 hz2
       go_upto_region 18 with (fail)
       refine bm 14 (by kernel_rfl) (by simp) (by kernel_rfl) (by kernel_rfl) (by kernel_rfl) (by kernel_rfl) (by kernel_rfl) ?_;simp only [List.take_succ_cons,List.take_zero,List.drop_succ_cons,List.drop_zero]
       repeat (go_big_quiet_step ((fail)))
       refine wpQuiet_nil ?_;intro _ hw';obtain ⟨u,hw''⟩:=hw';subst hw'';have nG:=aa (HS.out.1.below u.ok);have HHU:=aa ((HHT.out.below u.ok).zone (Y:=fun b=>(w.heap.size<=b/\b≠g')/\b≠gl') (fun b _ hz=>⟨⟨hz.1,hz.2.1⟩,hz.2.2⟩));have kr:=aa (HS.out.2.below u.ok);obtain ⟨CC,hCC⟩:=ab (C'++S.take k);rw [<-hCC] at nG l6 HTK;obtain ⟨LL,mx⟩:=ab (CC++List.replicate (wd - CC.length) zc);have HLL:=aa mx;have iO:=nG.out.2.2.2.1.each;rw [<-mx] at iO;have HOE:=aa iO;have hql:q<LL.length:=by rw [mx,List.length_append,List.length_replicate,l6.out];omega
       have HQ1:=aa hql;clear hql HS HHT s0 s1 s2 hCC mx iO
       go_wp2_with (refine dW (E:=cellE) (Y:=fun b=>w.heap.size<=b/\b≠g') (i:=q) rfl 74 (.tmp 80) (.tmp 79) rfl rfl rfl [.int .i64 K2,tv2] rfl (by kernel_rfl) HOE.out HQ1.out (K2,T2) (cell_rep.2 ⟨_,rfl,HHU.out⟩) ?_)
       intro w5 nJ ni;have hlt5:CC.length<wd:=by rw [l6.out];exact hqd
       rw [show q=CC.length from l6.out.symm,HLL.out] at nJ;have nt:=nG.out.put (K2,T2) hlt5 nJ (fun j b _ hz=>by first | exact hz | (split at hz <;> exact hz)) ni;rw [<-HTK.out] at nt;have HF:=aa (And.intro nt (kr.out.upd ni (fun b hz e=>hz.2.2 e)));clear nJ ni hlt5 nt;go_wp2
       go_roundw
       case rel=>exact ⟨k+1,by omega,by go_num,HF⟩
       case measure=>simp [intOf] <;> omega
      ·obtain rfl:k=m3:=by omega
       have d7:decide ((k:Int)<(k:Int))=false:=ah (by omega);have d8:¬ (k:Int)<(k:Int):=by omega
       have hcw2:IntKind.i64.wrap ((c':Int)+(k:Int))=((c'+k:Nat):Int):=by rw [IntKind.wrap_i64];omega
       have HF:=aa (show m'=vs'.length/\c'+k=(C'++S).length/\(Ls',C'++S)=aZ wd X (i+1)/\RbSt w g' cap' gl' wd vs' Ls' (C'++S) ws from ⟨mJ.out,by rw [List.length_append,<-ly.out,<-lq.out],HKN.out,by have h:=HS.out.1;rw [lq.out,List.take_length] at h;exact h⟩);clear kt HS;go_wp2
       go_roundw
       case rel=>exact ⟨i+1,g',cap',gl',m',c'+k,vs',Ls',C'++S,by omega,rfl,by go_num,rfl,by go_num,HF⟩
       case measure=>simp [intOf] <;> omega
  ·obtain rfl:i=n:=by omega
   have d1:¬ (i:Int)<(i:Int):=by omega
   have d1b:decide ((i:Int)<(i:Int))=false:=ah (by omega);have HF:=aa (show HeldE lineE (fun b=>w.heap.size<=b) wp (.slice (some ⟨g,0,none⟩) (m+1) cap2) (aR wd X)/\Below w.heap.size w wp from by
    have h:=(HR.out.shut (b:=false) HR.out.1 (Upd.refl _ _)).held;rw [show (vs0++[(rbv gl wd,false)]).length=m+1 from by rw [HM.out];simp] at h;refine ⟨?_,HR.out.2.2.2.2.2.2⟩;unfold aR;rw [<-HN.out,<-HK.out];exact h)
   clear iQ HR HK;go_wp2;go_ret;exact ⟨_,rfl,HF.out.1,HF.out.2⟩
end Go.Proofs.YthdphijabffpiaaDoor
