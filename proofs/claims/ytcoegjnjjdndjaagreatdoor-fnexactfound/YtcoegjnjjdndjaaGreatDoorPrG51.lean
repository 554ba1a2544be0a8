import Derived.Test.YtcoegjnjjdndjaaGreatDoorPrG50
import Derived.Test.YtcoegjnjjdndjaaGreatDoorPrG38
import Derived.Test.YtcoegjnjjdndjaaGreatDoorPrApU
import Derived.Test.YtcoegjnjjdndjaaGreatDoorPrG31
import Derived.RangeFuncNested
import Derived.RangeFuncBound
import Derived.RangeFuncCalls
import Derived.RangeFuncLeaves
import Derived.RangeFuncBox
import Derived.Shelf.Abstract
import Derived.Shelf.RegionOpenV
import Derived.WalkKit
import Derived.OwnWalkIn
import Derived.TacticsInMore
import Derived.LoopNIn
import Derived.LoopIn
import Derived.Sort.QuietIn
import Derived.Maps.AppendAt
import Derived.Maps.OwnIn
import Derived.Test.YtcoegjnjjdndjaaGreatDoorPrG47
import Derived.Shelf.Strings.BuilderK
import Derived.Test.YtcoegjnjjdndjaaGreatDoorPrShf
set_option maxHeartbeats 16000000
set_option maxRecDepth 8000
set_option linter.unusedVariables false
set_option linter.unusedSimpArgs false
namespace Go.Proofs.YtcoegjnjjdndjaaGreatDoor
open Go.RowKit
@[reducible] def scV (a:Option Addr) (n c:Nat) (u l:Int):Value:=.agg #[.slice a n c,.int .i64 u,.int .i64 l]
theorem scpost_own {w w':World} {e:Ending} {x:Scd} (h:ScPost w w' e x):∃ a c,e=.returned (scV a x.1.length c x.2.1 x.2.2)/\OwnS w' a (x.1.map Value.string)/\(∀ g,blk a x.1.length=some g->w.heap.size<=g)/\Below w.heap.size w w':=by
 obtain ⟨y,rfl,ho,hb⟩:=h
 rcases owns_forms ho with ⟨e1,e2⟩ | ⟨g,cap,e1,h1,h2,hr⟩
 ·subst e1
  have:x.1=[]:=List.eq_nil_of_length_eq_zero e2
  exact ⟨none,0,by rw [e2],.inl (by rw [this];rfl),fun g hg=>(by rw [e2] at hg;cases hg),hb⟩
 ·subst e1
  refine ⟨_,cap,rfl,.inr ⟨g,rfl,hr⟩,fun g' hg=>?_,hb⟩
  have:=blk_is hg
  omega
set_option maxHeartbeats 16000000 in
theorem fold_i (a:Option Addr) (es:List ByteArray) (c:Nat) (w:World) (h:Strs w a es) (hl:es.length<=1000) (hs:∀ e∈es,e.size<=1048576) :
  Calls Tryz.prog 66 #[.slice a es.length c] w fun e w'=>FdPost w w' e (foldE es []):=by
 obtain ⟨RES,HRES⟩:∃ RES,Hid (RES=foldE es []):=⟨_,hid rfl⟩
 rw [<-HRES.out]
 have HH:=hid h
 have HS:=hid hs
 clear h hs
 go_enter Tryz.func66,Tryz.ntmps66
 go_wp2
 go_loopw [13] (fun iv wr=>∃ (i:Nat) (rs:List Pr) (sa:Option Addr) (sc:Nat) (W:World),W=wr/\iv=.int .i64 (i:Int)/\i<=es.length/\stateOk rs=true/\Hid (foldE (es.drop i) rs=RES)/\FdB w W rs sa sc) (fun iv _=>((es.length:Int)-intOf iv).toNat)
 case atStart=>exact ⟨0,[],none,0,_,rfl,rfl,Nat.zero_le _,stateOk_nil,by show _=_;rw [HRES.out];rfl,FdB.new w⟩
 case round =>
  obtain ⟨i,rs,sa,sc,wr,rfl,rfl,hi,hok,HF,D⟩:=hrel
  have HD:=hid D
  have d1:=D.st.cell 0 _ rfl
  have d1l:=D.st.lt
  have d0:=D.rb.cell 0 _ rfl
  have d0l:=D.rb.lt
  have d0f:=D.rb.froz 0 (by simp)
  have hok':=stateOk_sizes hok
  have hrl:=hok'.1
  have HOK:=hid hok
  have HSZ:=hid hok'.2
  clear hok hok' D
  by_cases hlt:i<es.length
  ·have hlt':(i:Int)<(es.length:Int):=by omega
   have hi0:(0:Int)<=(i:Int):=by omega
   have hw1:IntKind.i64.wrap ((i:Int)+1)=(i:Int)+1:=by simp [IntKind.wrap,IntKind.bits,IntKind.signed];omega
   obtain ⟨b,o,s,rfl,hc,HE⟩:=(HH.out.below HD.out.be).at hlt
   have hes:s.size<=1048576:=HS.out s (by rw [HE.out];simp [List.getD,hlt])
   have hdr:es.drop i=s::es.drop (i+1):=by rw [HE.out];simp [List.getD,hlt]
   have hbl:b<wr.heap.size:=by have:=World.block_lt_of_cell? wr _ hc;simpa using this
   have HRB:=hid (fun wx=>read_i s wx hes)
   rw [res_eq] at HRB
   rw [hdr] at HF
   have HDR:=hid hdr
   clear hdr
   cases hR:resS s with
   | none =>
    rw [hR] at HRB
    have HN:Hid (RES=none):=by show _=_;rw [<-HF.out];exact foldE_none hR
    clear hR
    go_wp2_with fail
    refine (HRB.out _).mono ?_
    rintro e w5 ⟨ab,cb,rfl,_,_,hb5⟩
    simp only [Option.getD_none,Option.isSome_none,List.length_nil]
    have D5:=HD.out.below hb5
    have HD5:=hid D5
    have r0:=D5.rb.cell 0 _ rfl
    have r0l:=D5.rb.lt
    have r0f:=D5.rb.froz 0 (by simp)
    clear d1 d1l d0 d0l d0f D5 hb5 hc
    go_wp2
    refine bodyPost_ret (v:=.tuple #[stV none 0 0,.bool false]) (by simp [results,Tryz.results66,go_sem,r0,stV]) rfl ?_
    rw [HN.out]
    exact ⟨none,0,rfl,Nat.le_refl _,.inl rfl,fun g hg=>(by cases hg),HD5.out.be.setCell (by show w.heap.size<=w.heap.size;omega) _⟩
   | some bb =>
    rw [hR] at HRB
    have hbs:=batchOk_sizes (resS_ok hR)
    have HBS:=hid hbs.2
    have hbl2:=hbs.1
    clear hbs
    by_cases hc0:apC rs bb=0
    ·have HN:Hid (foldE (es.drop (i+1)) (apU rs bb)=RES):=by show _=_;rw [<-HF.out];exact (foldE_yes hR hc0).symm
     have hU:apR rs bb=apU rs bb:=by unfold apR;rw [if_pos hc0]
     have HOU:=hid (apU_ok hc0)
     clear hR
     go_wp2_with fail
     refine (HRB.out _).mono ?_
     rintro e w5 ⟨ab,cb,rfl,ho5,hg5,hb5⟩
     simp only [Option.getD_some,Option.isSome_some] at ho5 hg5 ⊢
     have D5:=HD.out.below hb5
     have HD5:=hid D5
     have r1:=D5.st.cell 0 _ rfl
     have r1l:=D5.st.lt
     have HAP:=hid (apply_i sa rs sc ab bb cb w5 D5.own.prs (by omega) HSZ.out (ownS_chs ho5) (by omega) HBS.out)
     rw [hU,hc0] at HAP
     clear d1 d1l d0 d0l d0f D5 hb5 hc ho5 hg5
     go_wp2_with fail
     refine HAP.out.mono ?_
     rintro e w6 ⟨a6,c6,rfl,hc6,ho6,hg6,hb6⟩
     have D6:=(HD5.out.below hb6).below (below_new w6 (.cells #[.slice a6 (apU rs bb).length c6] 39))
     have HD6:=hid (D6.set ho6 hc6 (fun g hg=>by have:=hg6 g hg;omega))
     have x1:=D6.st.cell 0 _ rfl
     have x1f:=D6.st.froz 0 (by simp)
     have x1l:=D6.st.lt
     have x6:w6.heap.size≠w.heap.size+1:=by have:=(HD5.out.below hb6).st.lt;omega
     clear r1 r1l D6 hb6 ho6 hg6 hc0 hU
     go_wp2
     exact ⟨⟨i+1,_,a6,c6,_,rfl,by simp,by omega,HOU.out,HN,HD6.out⟩,by simp [intOf];omega⟩
    ·have HN:Hid (RES=none):=by show _=_;rw [<-HF.out];exact foldE_no hR hc0
     have hU:apR rs bb=[]:=by unfold apR;rw [if_neg hc0]
     have hcb:(apC rs bb == 0)=false:=by simp [hc0]
     have hcb2:(apC rs bb != 0)=true:=by simp [hc0]
     clear hR
     go_wp2_with fail
     refine (HRB.out _).mono ?_
     rintro e w5 ⟨ab,cb,rfl,ho5,hg5,hb5⟩
     simp only [Option.getD_some,Option.isSome_some] at ho5 hg5 ⊢
     have D5:=HD.out.below hb5
     have HD5:=hid D5
     have r1:=D5.st.cell 0 _ rfl
     have r1l:=D5.st.lt
     have HAP:=hid (apply_i sa rs sc ab bb cb w5 D5.own.prs (by omega) HSZ.out (ownS_chs ho5) (by omega) HBS.out)
     rw [hU] at HAP
     clear d1 d1l d0 d0l d0f D5 hb5 hc ho5 hg5 hU
     go_wp2_with fail
     refine HAP.out.mono ?_
     rintro e w6 ⟨a6,c6,rfl,hc6,ho6,hg6,hb6⟩
     have D6:=(HD5.out.below hb6).below (below_new w6 (.cells #[.slice a6 0 c6] 39))
     have HD6:=hid D6
     have r0:=D6.rb.cell 0 _ rfl
     have r0l:=D6.rb.lt
     have r0f:=D6.rb.froz 0 (by simp)
     clear r1 r1l D6 hb6 ho6 hg6
     go_wp2
     refine bodyPost_ret (v:=.tuple #[stV none 0 0,.bool false]) (by simp [results,Tryz.results66,go_sem,r0,stV]) rfl ?_
     rw [HN.out]
     exact ⟨none,0,rfl,Nat.le_refl _,.inl rfl,fun g hg=>(by cases hg),HD6.out.be.setCell (by show w.heap.size<=w.heap.size;omega) _⟩
  ·have HN:Hid (RES=some rs):=by show _=_;rw [<-HF.out,List.drop_of_length_le (by omega)];rfl
   have hlt':¬ ((i:Int)<(es.length:Int)):=by omega
   have hne:¬ (w.heap.size=w.heap.size+1):=by omega
   go_wp2
   refine bodyPost_ret (v:=.tuple #[stV sa rs.length sc,.bool true]) (by simp [results,Tryz.results66,go_sem,d0,stV]) rfl ?_
   rw [HN.out]
   refine ⟨sa,sc,rfl,HD.out.cap,OwnS.setF HD.out.own ⟨w.heap.size,0,none⟩ (fun g hg hn=>?_) _,fun g hg=>by have:=HD.out.lo g hg;omega,HD.out.be.setCell (by show w.heap.size<=w.heap.size;omega) _⟩
   have:=HD.out.lo g (by subst hg;exact blk_pos _ _ _ (prcells_neF hn))
   show w.heap.size≠g
   omega
end Go.Proofs.YtcoegjnjjdndjaaGreatDoor
namespace Go.Proofs.YtcoegjnjjdndjaaGreatDoor
open Go.RowKit Go.Shelf
attribute [local go_sem] Oper.semAt_some
@[reducible] def pgV (x:Int×Int×Int×ByteArray):Value:=pageV x.1 x.2.1 x.2.2.1 x.2.2.2
@[reducible] def pgE {SF:Nat->ByteArray} {fm:Nat} {wd:Int} {N:Nat} (x:Pgs SF fm wd N):Array Value:=#[.int .i64 (x.1:Int),pgV (pgAt SF fm wd x.1)]
def KpP (n3 g1 g2:Nat) (A B:World):Prop:=Below n3 A B/\B.heap[g1]?=A.heap[g1]?/\B.heap[g2]?=A.heap[g2]?
theorem KpP.t {n3 g1 g2:Nat} {A B C:World} (h:KpP n3 g1 g2 A B) (k:KpP n3 g1 g2 B C):KpP n3 g1 g2 A C:=⟨h.1.trans k.1,k.2.1.trans h.2.1,k.2.2.trans h.2.2⟩
theorem KpP.b {n3 g1 g2:Nat} {w:World} (hn:n3<=w.heap.size) (h1:g1<w.heap.size) (h2:g2<w.heap.size) (W:World) (l:Nat) (o o':Obj) (hl:w.heap.size<=l) (h:W.heap[l]?=some o) (hc:o.isCells=false) (hw:o.isWalk=false):KpP n3 g1 g2 W (W.putObj l o') :=
 ⟨belowK_b hn W l o o' hl h hc hw,World.putObj_heap_other (by omega),World.putObj_heap_other (by omega)⟩
theorem KpP.grown {n3 g1 g2:Nat} {A B C:World} (h:KpP n3 g1 g2 A B) (hg:Below B.heap.size B C) (h0:n3<=B.heap.size) (h1:g1<B.heap.size) (h2:g2<B.heap.size):KpP n3 g1 g2 A C :=
 ⟨h.1.trans (hg.mono h0),(hg.block g1 h1).trans h.2.1,(hg.block g2 h2).trans h.2.2⟩
def PgEnd {SF:Nat->ByteArray} {fm:Nat} {wd:Int} {N:Nat} (u:Nat) (ys:List (Pgs SF fm wd N)):Prop:=Good u ys/\(N<=u+ys.length\/rpRes (SF (fm+(u+ys.length))) wd=none)
theorem heap_cell {w:World} {g:Nat} {cs:Array Value} {t:TypeId} {z:Nat×Nat} (h:w.heap[g]?=some (.cells cs t z)) (i:Nat) (v:Value) (hv:cs[i]?=some v):w.cell? ⟨g,i,none⟩=some v:=by
 simp [World.cell?,h,hv]
theorem below_grown0 {A B:World} (h:Below A.heap.size A B):A.grownBy B none:=⟨h.os,h.tape,h.output,h.size,fun k hk _=>h.block k hk⟩
set_option maxHeartbeats 16000000 in
theorem pages1_in (n:Nat) (hn:1<=n) (l g1 g2 fm N u:Nat) (SF:Nat->ByteArray) (wd:Int) (v0 v1:Value) (w3:World) (hN:N<=200) (hu:u<=N)
  (HPG:Hid (∀ wx,Below w3.heap.size w3 wx->∀ m:Nat,m<N->Calls Tryz.prog 137 #[regV v0 v1 (fm:Int) (N:Int) wd,.int .i64 (m:Int)] wx fun e w'=>e=.returned (rpV (rpRes (SF (fm+m)) wd))/\Below wx.heap.size wx w'))
  (J Jx:List (Pgs SF fm wd N)->World->Prop)
  (hY:∀ pre x W1,J pre W1->pre.length<N->YieldAt Fence.wide (n-1) Tryz.prog l (pgE x) W1 fun e W'=>(e=.returned (.bool true)/\J (pre++[x]) W'/\KpP w3.heap.size g1 g2 W1 W')\/(e=.returned (.bool false)/\Jx (pre++[x]) W'))
  (W:World) (hW:Below w3.heap.size w3 W) (hb1:W.heap[g1]?=some (.cells #[.iface 198 (.agg #[v0,v1]),.int .i64 (fm:Int),.int .i64 (N:Int),.int .i64 wd] 156 (0,0))) (hb2:W.heap[g2]?=some (.cells #[.int .i64 (u:Int)] 3 (0,0)))
  (h0:J [] W) (hJ:∀ s A B,J s A->A.grownBy B none->J s B) :
  CallsIn Fence.wide n Tryz.prog 136 #[.func (.yield l) #[] #[],.pointer (some ⟨g2,0,none⟩),.pointer (some ⟨g1,0,none⟩)] W fun e W'=>(∃ v,e=.returned v) /\
   ((∃ ys,PgEnd u ys/\J ys W')\/(∃ pre,Good u pre/\Jx pre W')):=by
 refine callsIn_of_wp Tryz.func136 rfl trivial ?_ rfl
 simp only [Tryz.ntmps136,List.size_toArray,List.length_cons,List.length_nil,Nat.reduceAdd,Nat.reduceSub,Array.replicate_succ,Array.replicate_zero,List.push_toArray,List.append_toArray,List.nil_append,List.cons_append]
 have HY:=hid hY
 have HJ:=hid hJ
 clear hY hJ
 have q0:=heap_cell hb2 0 (.int .i64 (u:Int)) rfl
 gi_wp2
 clear q0
 gi_loopw [4] (fun i wr=>∃ (k:Nat) (pre:List (Pgs SF fm wd N)),pre.length=k/\Good u pre/\u+k<=N/\i=.int .i64 ((u+k:Nat):Int)/\J pre wr/\Below w3.heap.size w3 wr/\wr.heap[g1]?=some (.cells #[.iface 198 (.agg #[v0,v1]),.int .i64 (fm:Int),.int .i64 (N:Int),.int .i64 wd] 156 (0,0))) (fun i _=>N-(intOf i).toNat)
 case atStart=>exact ⟨0,[],rfl,Good.nil u,hu,rfl,h0,hW,hb1⟩
 case round =>
  obtain ⟨k,pre,hpl,hgd,huk,rfl,hJs,hbw,hg1⟩:=hrel
  obtain ⟨q,hq⟩:∃ q,q=u+k:=⟨_,rfl⟩
  rw [<-hq]
  have HQ:=hid hq
  have HPL:=hid hpl
  have HGD:=hid hgd
  have HJS:=hid hJs
  have HBW:=hid hbw
  have huq:q<=N:=by omega
  have HG1:=hid hg1
  have hlg:=(Array.getElem?_eq_some_iff.1 hg1).1
  clear hpl hgd hJs huk
  have c0:=heap_cell hg1 0 (.iface 198 (.agg #[v0,v1])) rfl
  have c1:=heap_cell hg1 1 (.int .i64 (fm:Int)) rfl
  have c2:=heap_cell hg1 2 (.int .i64 (N:Int)) rfl
  have c3:=heap_cell hg1 3 (.int .i64 wd) rfl
  clear hg1 hq hb1 hb2 hW h0
  by_cases hlt:q<N
  ·have hlt':(q:Int)<(N:Int):=by omega
   have hw1:IntKind.i64.wrap ((q:Int)+1)=(q:Int)+1:=by simp [IntKind.wrap,IntKind.bits,IntKind.signed];omega
   have hpg:=HPG.out wr HBW.out q hlt
   clear hbw
   cases hR:rpRes (SF (fm+q)) wd with
   | none =>
    rw [hR] at hpg
    simp only [rpV] at hpg
    have HR:=hid hR
    have HP:=hid hpg
    clear hR hpg
    gi_wp2_with (refine ⟨trivial,?_⟩;gi_at_call 137;refine (callsIn_wide.2 HP.out).mono ?_;rintro e w5 ⟨rfl,hb5⟩)
    refine ⟨fun f hf=>(by cases hf),?_⟩
    gi_wp2
    refine bodyPost_ret (results_none rfl _ _ _) rfl ?_
    refine ⟨⟨_,rfl⟩,.inl ⟨pre,⟨HGD.out,.inr ?_⟩,HJ.out _ _ _ HJS.out (below_grown0 (hb5.alloc hb5.size _))⟩⟩
    rw [HPL.out,<-HQ.out]
    exact HR.out
   | some pg =>
    obtain ⟨pk,pl,pm,pp⟩:=pg
    rw [hR] at hpg
    simp only [rpV] at hpg
    obtain ⟨xx,hxx⟩:∃ xx:Pgs SF fm wd N,xx.1=q:=⟨⟨q,hlt,by rw [hR];rfl⟩,rfl⟩
    have hpx:pgE xx=#[.int .i64 (q:Int),.agg #[.int .i64 pk,.int .i64 pl,.int .i64 pm,.string pp]]:=by unfold pgE pgV pgAt;rw [hxx,hR];rfl
    have HPX:=hid hpx
    have HXX:=hid hxx
    have HR:=hid hR
    have HP:=hid hpg
    clear hR hpg hpx hxx
    gi_wp2_with (refine ⟨trivial,?_⟩;gi_at_call 137;refine (callsIn_wide.2 HP.out).mono ?_;rintro e w5 ⟨rfl,hb5⟩)
    obtain ⟨fn,tmps,assign,body,hy,hRR⟩:=HY.out pre xx (w5.alloc (.cells #[.int .i64 pk,.int .i64 pl,.int .i64 pm,.string pp] 98)) (HJ.out _ _ _ HJS.out (below_grown0 (hb5.alloc hb5.size _))) (by rw [HPL.out];have:=HQ.out;omega)
    rw [HPX.out] at hy
    have hk5:=hb5.size
    have HG5:=hid ((hb5.alloc hb5.size (.cells #[.int .i64 pk,.int .i64 pl,.int .i64 pm,.string pp] 98)).block _ hlg)
    have HB5:=hid (HBW.out.trans ((hb5.alloc hb5.size (.cells #[.int .i64 pk,.int .i64 pl,.int .i64 pm,.string pp] 98)).mono HBW.out.size))
    clear hb5
    rw [hy,Oper.uponIn_round]
    refine ⟨fun _=>hn,?_⟩
    refine hRR.mono ?_
    rintro e W6 (⟨rfl,hJ6,hk6⟩ | ⟨rfl,hJx6⟩)
    ·have HG6:=hid (hk6.2.1.trans (HG5.out.trans HG1.out))
     have HB6:=hid (HB5.out.trans hk6.1)
     have HJ6:=hid hJ6
     clear hJ6 hk6 hRR hy
     gi_wp2
     go_roundw
     case rel=>exact ⟨k+1,pre++[xx],by rw [List.length_append,HPL.out];rfl,HGD.out.push (by rw [HXX.out,HPL.out,HQ.out]),by have:=HQ.out;omega,by have:=HQ.out;simp;omega,HJ6.out,HB6.out,HG6.out⟩
     case measure=>simp [intOf];omega
    ·have HJ6:=hid hJx6
     clear hJx6 hRR hy
     gi_wp2
     refine bodyPost_ret (results_none rfl _ _ _) rfl ?_
     exact ⟨⟨_,rfl⟩,.inr ⟨pre++[xx],HGD.out.push (by rw [HXX.out,HPL.out,HQ.out]),HJ6.out⟩⟩
  ·gi_wp2
   go_end0
   exact ⟨⟨_,rfl⟩,.inl ⟨pre,⟨HGD.out,.inl (by rw [HPL.out,<-HQ.out];omega)⟩,HJS.out⟩⟩
set_option maxHeartbeats 16000000 in
theorem pages_in (n:Nat) (v0 v1:Value) (fm N:Int) (wd:Int) (u:Int) (w:World) :
  CallsIn Fence.wide n Tryz.prog 106 #[regV v0 v1 fm N wd,.int .i64 u] w fun e w'=>e=.returned (.func (.func 136) #[] #[.pointer (some ⟨w.heap.size+1,0,none⟩),.pointer (some ⟨w.heap.size,0,none⟩)])/\w'=(w.alloc (.cells #[.iface 198 (.agg #[v0,v1]),.int .i64 fm,.int .i64 N,.int .i64 wd] 156)).alloc (.cells #[.int .i64 u] 3):=by
 refine callsIn_of_wp Tryz.func106 rfl trivial ?_ rfl
 simp only [Tryz.ntmps106,List.size_toArray,List.length_cons,List.length_nil,Nat.reduceAdd,Nat.reduceSub,Array.replicate_succ,Array.replicate_zero,List.push_toArray,List.append_toArray,List.nil_append,List.cons_append]
 gi_wp2
 go_ret
 exact ⟨rfl,rfl⟩
theorem pages_stops (n:Nat) (hn:1<=n) (g1 g2 fm N u:Nat) (SF:Nat->ByteArray) (wd:Int) (v0 v1:Value) (w3 w:World) (hN:N<=200) (hu:u<=N) (h3:Below w3.heap.size w3 w)
  (HPG:Hid (∀ wx,Below w3.heap.size w3 wx->∀ m:Nat,m<N->Calls Tryz.prog 137 #[regV v0 v1 (fm:Int) (N:Int) wd,.int .i64 (m:Int)] wx fun e w'=>e=.returned (rpV (rpRes (SF (fm+m)) wd))/\Below wx.heap.size wx w'))
  (hb1:w.heap[g1]?=some (.cells #[.iface 198 (.agg #[v0,v1]),.int .i64 (fm:Int),.int .i64 (N:Int),.int .i64 wd] 156 (0,0))) (hb2:w.heap[g2]?=some (.cells #[.int .i64 (u:Int)] 3 (0,0))) :
  SeqStopsK Fence.wide n Tryz.prog 136 #[.pointer (some ⟨g2,0,none⟩),.pointer (some ⟨g1,0,none⟩)] (fun x:Pgs SF fm wd N=>pgE x) (KpP w3.heap.size g1 g2) (PgEnd u) (Good u) N w:=fun l J Jx W hW hJ hJx hY h0 =>
 pages1_in n hn l g1 g2 fm N u SF wd v0 v1 w3 hN hu HPG J Jx hY W (h3.trans (hW.mono h3.size)) ((hW.block _ (Array.getElem?_eq_some_iff.1 hb1).1).trans hb1) ((hW.block _ (Array.getElem?_eq_some_iff.1 hb2).1).trans hb2) h0 (fun s A B hs hg=>hJ s A B none hs hg (fun r e=>(by cases e)))
end Go.Proofs.YtcoegjnjjdndjaaGreatDoor
namespace Go.Proofs.YtcoegjnjjdndjaaGreatDoor
open Go.RowKit Go.Shelf
theorem b_writek (B b:Nat) (bs:List Value) (s:ByteArray) (w:World) (h:Lib.IsBuilderF 160 5 B b bs w) (hlen:bs.length+s.size<=140737488355328) (hBw:B<=w.heap.size) :
  Calls Tryz.prog 108 #[.pointer (some ⟨b,0,none⟩),.string s] w fun e w'=>e=.returned (.tuple #[.int .i64 s.size,.nilIface])/\(Lib.BuilderAtF 160 5 B b (.pointer (some ⟨b,0,none⟩)) (bs++Lib.strCells s) w'/\Below B w w'/\Lib.OthersKept 5 (some b) w w'):=Any.Builder_WriteString_k bLays166 bExtra B b bs s w h hlen hBw
theorem b_stringk (B b:Nat) (l:List UInt8) (w:World) (h:Lib.IsBuilderF 160 5 B b (Lib.byteCells l) w) (hBw:B<=w.heap.size) :
  Calls Tryz.prog 110 #[.pointer (some ⟨b,0,none⟩)] w fun e w'=>e=.returned (.string ⟨l.toArray⟩)/\(Lib.IsBuilderF 160 5 B b (Lib.byteCells l) w'/\Below B w w'/\Lib.OthersKept 5 (some b) w w'):=Any.Builder_String_any_k bLays169 bExtra B b l w h hBw
theorem row_is_cells {W:World} {g:Nat} {c:Value} {cs:List Value} (h:Row W g (c::cs)):∃ a t z,W.heap[g]?=some (.cells a t z):=by
 have:=h.cell 0 c rfl
 unfold World.cell? at this
 split at this
 ·exact ⟨_,_,_,by assumption⟩
 ·cases this
theorem row_kept {W W':World} {g:Nat} {c:Value} {cs:List Value} {row:Option Nat} (h:Row W g (c::cs)) (hg:W.grownBy W' row) (hr:∀ r,row=some r->r≠g\/∃ o:Obj,W.heap[r]?=some o/\o.isCells=false):Row W' g (c::cs):=by
 refine h.grown hg fun e=>?_
 rcases hr g e.symm with h1 | ⟨o,ho,hc⟩
 ·exact h1 rfl
 ·obtain ⟨a,t,z,hh⟩:=row_is_cells h
  rw [hh] at ho;cases ho;cases hc
theorem own_kept {W W':World} {base:Nat} {e:TypeId} {s:Nat} {v:Value} {n:Nat} {xs:List Value} {row:Option Nat} (h:W.ownsRow base e s v n xs) (hg:W.grownBy W' row) (hr:∀ r,row=some r->∃ o:Obj,W.heap[r]?=some o/\o.isCells=false):W'.ownsRow base e s v n xs:=by
 refine h.kept hg ?_
 rcases h.2 with ⟨rfl,_⟩ | ⟨g,cap,cur,rfl,_,hgb,_⟩
 ·exact .inl rfl
 ·refine .inr fun e'=>?_
  obtain ⟨o,ho,hc⟩:=hr g (by simpa [Value.ownBlock] using e'.symm)
  rw [hgb] at ho;cases ho;cases hc
theorem bu_kept {T e:TypeId} {B b:Nat} {bs:List Value} {W W':World} {row:Option Nat} (h:Lib.IsBuilderF T e B b bs W) (hg:W.grownBy W' row) (hr:∀ r,row=some r->r<B\/∃ o:Obj,W.heap[r]?=some o/\o.isCells=false):Lib.IsBuilderF T e B b bs W':=by
 have key:∀ p,Lib.BuilderAtF T e B b p bs W->Lib.BuilderAtF T e B b p bs W':=by
  rintro p ⟨hB,v,hb,hown,hne⟩
  have hlt:b<W.heap.size:=(Array.getElem?_eq_some_iff.1 hb).1
  have h1:some b≠row:=fun e=>by
   rcases hr b e.symm with h | ⟨o,ho,hc⟩
   ·omega
   ·rw [hb] at ho;cases ho;cases hc
  refine ⟨hB,v,(hg.block b hlt h1).trans hb,hown.kept hg ?_,hne⟩
  cases hv:v.ownBlock with
  | none=>exact .inl rfl
  | some k =>
   refine .inr fun e'=>?_
   rcases hr k e'.symm with h | ⟨o,ho,hc⟩
   ·have:=(hown.lt k hv).1;omega
   ·obtain ⟨c,fz,hk⟩:=Lib.ownsRowF_kind hown k hv
    rw [hk] at ho;cases ho;cases hc
 rcases h with h | h
 ·exact .inl (key _ h)
 ·exact .inr (key _ h)
theorem bu_block {T e:TypeId} {B b:Nat} {bs:List Value} {W:World} (h:Lib.IsBuilderF T e B b bs W):∃ a,W.heap[b]?=some (.cells a T (0,0)):=by
 rcases h with ⟨_,v,hb,_⟩ | ⟨_,v,hb,_⟩<;>exact ⟨_,hb⟩
theorem keeps_others {T:TypeId} {b:Nat} {W W':World} {a:Array Value} {z:Nat×Nat} {e:TypeId} (hb:W.heap[b]?=some (.cells a T z)) (hk:Lib.OthersKept e (some b) W W') (hs:W.heap.size<=W'.heap.size):KeepsOthers W W' :=
 ⟨hs,fun k o hko hc=>hk k o hko (fun e=>by cases e;rw [hb] at hko;cases hko;cases hc) (fun c fz e=>by rw [e] at hc;cases hc)⟩
theorem keeps_below' {W W':World} (h:Below W.heap.size W W'):KeepsOthers W W':=⟨h.size,fun k o hk _=>(h.block k (Array.getElem?_eq_some_iff.1 hk).1).trans hk⟩
structure ScL (w3 W:World) (Rs:List Nat) (M:Nat) (c0 c1 c2 c3:Value) (y:Value) (ents:List ByteArray) (u l wk wl wm:Int) (wp:ByteArray):Prop where
 lb:Row W w3.heap.size [c0,c1,c2,c3]
 fb:Row W (w3.heap.size+1) [y,.int .i64 u,.int .i64 l]
 bb:Row W (w3.heap.size+2) [.int .i64 wk,.int .i64 wl,.int .i64 wm,.string wp]
 own:W.ownsRow w3.heap.size 9 1 y ents.length (ents.map Value.string)
 yo:∀ k,y.ownBlock=some k->w3.heap.size+2<k
 be:Below w3.heap.size w3 W
 mr:∀ r∈Rs,w3.heap.size<=r/\r<M/\W.heap[r]?=some (.deferred (some []))
 nd:Rs.Nodup
section
variable {w3 W W':World} {Rs:List Nat} {M:Nat} {c0 c1 c2 c3:Value} {y:Value} {ents:List ByteArray} {u l wk wl wm:Int} {wp:ByteArray}
theorem ScL.kept {row:Option Nat} (h:ScL w3 W Rs M c0 c1 c2 c3 y ents u l wk wl wm wp) (hM:w3.heap.size<=M) (hg:W.grownBy W' row) (hr:∀ r,row=some r->M<=r/\∃ o:Obj,W.heap[r]?=some o/\o.isCells=false):ScL w3 W' Rs M c0 c1 c2 c3 y ents u l wk wl wm wp:=by
 have hr':∀ g:Nat,∀ r,row=some r->r≠g\/∃ o:Obj,W.heap[r]?=some o/\o.isCells=false:=fun g r e=>.inr (hr r e).2
 refine ⟨row_kept h.lb hg (hr' _),row_kept h.fb hg (hr' _),row_kept h.bb hg (hr' _),own_kept h.own hg (fun r e=>(hr r e).2),h.yo,h.be.grown hg h.be.size (fun k e=>Nat.le_trans hM (hr k e).1),fun r hrr=>?_,h.nd⟩
 obtain ⟨h0,h1,h2⟩:=h.mr r hrr
 exact ⟨h0,h1,(hg.block r (Array.getElem?_eq_some_iff.1 h2).1 (fun e=>by have:=(hr r e.symm).1;omega)).trans h2⟩
theorem ScL.low (h:ScL w3 W Rs M c0 c1 c2 c3 y ents u l wk wl wm wp) (hb:Below M W W') (hM:w3.heap.size+2<M) (hyM:∀ k,y.ownBlock=some k->k<M):ScL w3 W' Rs M c0 c1 c2 c3 y ents u l wk wl wm wp:=by
 have rw':∀ {g:Nat} {cs:List Value},g<M->Row W g cs->Row W' g cs:=fun hg hr=>⟨Nat.lt_of_lt_of_le hr.lt hb.size,fun i v hv=>(World.cell?_of_block (a:=⟨_,i,none⟩) (hb.block _ hg)).trans (hr.cell i v hv),fun i hi=>(World.frozen?_of_block (a:=⟨_,i,none⟩) (hb.block _ hg)).trans (hr.froz i hi)⟩
 have ow:W'.ownsRow w3.heap.size 9 1 y ents.length (ents.map Value.string):=by
  have h1:=h.own
  refine ⟨h1.1,?_⟩
  rcases h1.2 with h2 | ⟨g,cap,cur,hv,hbg,hgb,hrest⟩
  ·exact .inl h2
  ·exact .inr ⟨g,cap,cur,hv,hbg,(hb.block g (hyM g (by rw [hv];rfl))).trans hgb,hrest⟩
 exact ⟨rw' (by omega) h.lb,rw' (by omega) h.fb,rw' (by omega) h.bb,ow,h.yo,h.be.trans (hb.mono (by omega)),fun r hr=>⟨(h.mr r hr).1,(h.mr r hr).2.1,(hb.block r (h.mr r hr).2.1).trans (h.mr r hr).2.2⟩,h.nd⟩
theorem ScL.top (h:ScL w3 W Rs M c0 c1 c2 c3 y ents u l wk wl wm wp):ScL w3 W Rs W.heap.size c0 c1 c2 c3 y ents u l wk wl wm wp :=
 ⟨h.lb,h.fb,h.bb,h.own,h.yo,h.be,fun r hr=>⟨(h.mr r hr).1,(Array.getElem?_eq_some_iff.1 (h.mr r hr).2.2).1,(h.mr r hr).2.2⟩,h.nd⟩
theorem ScL.below (h:ScL w3 W Rs M c0 c1 c2 c3 y ents u l wk wl wm wp) (hb:Below W.heap.size W W'):ScL w3 W' Rs M c0 c1 c2 c3 y ents u l wk wl wm wp :=
 ⟨h.lb.below hb,h.fb.below hb,h.bb.below hb,owns_below h.own hb,h.yo,h.be.trans (hb.mono h.be.size),fun r hr=>⟨(h.mr r hr).1,(h.mr r hr).2.1,(hb.block r (Array.getElem?_eq_some_iff.1 (h.mr r hr).2.2).1).trans (h.mr r hr).2.2⟩,h.nd⟩
theorem ScL.own_ne (h:ScL w3 W Rs M c0 c1 c2 c3 y ents u l wk wl wm wp) {k:Nat} (hk:k<=w3.heap.size+2):y.ownBlock≠some k:=fun e=>by have:=h.yo k e;omega
theorem ScL.mk_ne (h:ScL w3 W Rs M c0 c1 c2 c3 y ents u l wk wl wm wp) {r:Nat} (hr:r∈Rs):r≠w3.heap.size+1/\r≠w3.heap.size+2/\y.ownBlock≠some r:=by
 have h2:=(h.mr r hr).2.2
 refine ⟨fun e=>?_,fun e=>?_,fun e=>?_⟩
 ·obtain ⟨a,t,z,hh⟩:=row_is_cells h.fb
  rw [e,hh] at h2;cases h2
 ·obtain ⟨a,t,z,hh⟩:=row_is_cells h.bb
  rw [e,hh] at h2;cases h2
 ·rcases h.own.2 with ⟨rfl,_⟩ | ⟨g,cap,cur,rfl,_,hgb,_⟩
  ·cases e
  ·have:g=r:=by simpa [Value.ownBlock] using e
   rw [this,h2] at hgb;cases hgb
theorem ScL.setWas (h:ScL w3 W Rs M c0 c1 c2 c3 y ents u l wk wl wm wp) (k' l' m':Int) (p':ByteArray) :
  ScL w3 ((((W.setCell ⟨w3.heap.size+2,0,none⟩ (.int .i64 k')).setCell ⟨w3.heap.size+2,1,none⟩ (.int .i64 l')).setCell ⟨w3.heap.size+2,2,none⟩ (.int .i64 m')).setCell ⟨w3.heap.size+2,3,none⟩ (.string p')) Rs M c0 c1 c2 c3 y ents u l k' l' m' p':=by
 have far:∀ {g:Nat} {cs:List Value},g≠w3.heap.size+2->Row W g cs->Row ((((W.setCell ⟨w3.heap.size+2,0,none⟩ (.int .i64 k')).setCell ⟨w3.heap.size+2,1,none⟩ (.int .i64 l')).setCell ⟨w3.heap.size+2,2,none⟩ (.int .i64 m')).setCell ⟨w3.heap.size+2,3,none⟩ (.string p')) g cs:=fun hg hr =>
  (((hr.other _ (Ne.symm hg) _).other _ (Ne.symm hg) _).other _ (Ne.symm hg) _).other _ (Ne.symm hg) _
 have hy:=h.own_ne (Nat.le_refl _)
 have bs:∀ {x:World},Below w3.heap.size w3 x->∀ i v,Below w3.heap.size w3 (x.setCell ⟨w3.heap.size+2,i,none⟩ v):=fun hx i v=>hx.setCell (by show w3.heap.size<=w3.heap.size+2;omega) _
 refine ⟨far (by omega) h.lb,far (by omega) h.fb,(((h.bb.set 0 (by simp) _).set 1 (by simp) _).set 2 (by simp) _).set 3 (by simp) _,ownsRow_setCell_other (ownsRow_setCell_other (ownsRow_setCell_other (ownsRow_setCell_other h.own hy _) hy _) hy _) hy _,h.yo,bs (bs (bs (bs h.be _ _) _ _) _ _) _ _,fun r hr=>⟨(h.mr r hr).1,(h.mr r hr).2.1,?_⟩,h.nd⟩
 have hn:=(h.mk_ne hr).2.1
 rw [Below.heap_setCell _ _ _ _ hn,Below.heap_setCell _ _ _ _ hn,Below.heap_setCell _ _ _ _ hn,Below.heap_setCell _ _ _ _ hn]
 exact (h.mr r hr).2.2
theorem ScL.take (h:ScL w3 W Rs M c0 c1 c2 c3 y ents u l wk wl wm wp) {ents':List ByteArray} {u' l':Int} (ht:TkPost w3.heap.size (w3.heap.size+1) y W ents' u' l' W'):∃ y',ScL w3 W' Rs M c0 c1 c2 c3 y' ents' u' l' wk wl wm wp:=by
 obtain ⟨y',hr,ho,hat,hb,hk⟩:=ht
 have rw':∀ {g:Nat} {cs:List Value},g<=w3.heap.size+2->g≠w3.heap.size+1->Row W g cs->Row W' g cs:=fun hg hne hr=>by
  have e:=hk _ hr.lt hne (fun e=>h.own_ne hg e.symm)
  exact ⟨Nat.lt_of_lt_of_le hr.lt hb.size,fun i v hv=>(World.cell?_of_block (a:=⟨_,i,none⟩) e).trans (hr.cell i v hv),fun i hi=>(World.frozen?_of_block (a:=⟨_,i,none⟩) e).trans (hr.froz i hi)⟩
 have l3:=h.bb.lt
 refine ⟨y',rw' (by omega) (by omega) h.lb,hr,rw' (by omega) (by omega) h.bb,ho,fun k e=>?_,h.be.trans hb,fun r hrr=>⟨(h.mr r hrr).1,(h.mr r hrr).2.1,?_⟩,h.nd⟩
 ·rcases hat with e2 | ⟨H,e2,hH⟩
  ·exact h.yo k (e2.symm.trans e)
  ·rw [e2] at e;cases e;omega
 ·have hn:=h.mk_ne hrr
  exact (hk r (Array.getElem?_eq_some_iff.1 (h.mr r hrr).2.2).1 hn.1 (fun e=>hn.2.2 e.symm)).trans (h.mr r hrr).2.2
theorem ScL.takeKeeps (h:ScL w3 W Rs M c0 c1 c2 c3 y ents u l wk wl wm wp) {ents':List ByteArray} {u' l':Int} (ht:TkPost w3.heap.size (w3.heap.size+1) y W ents' u' l' W'):KeepsOthers W W':=by
 obtain ⟨y',hr,ho,hat,hb,hk⟩:=ht
 refine ⟨hb.size,fun k o hko hc=>(hk k (Array.getElem?_eq_some_iff.1 hko).1 (fun e=>?_) (fun e=>?_)).trans hko⟩
 ·obtain ⟨a,t,z,hh⟩:=row_is_cells h.fb
  rw [e,hh] at hko;cases hko;cases hc
 ·rcases h.own.2 with ⟨rfl,_⟩ | ⟨g,cap,cur,rfl,_,hgb,_⟩
  ·cases e
  ·have:k=g:=by simpa [Value.ownBlock] using e
   rw [this,hgb] at hko;cases hko;cases hc
theorem ScL.push (h:ScL w3 W Rs M c0 c1 c2 c3 y ents u l wk wl wm wp) {D:Nat} (hD:W.heap[D]?=some (.deferred (some []))) (hn:M<=D) (h3:w3.heap.size<=D):ScL w3 W (D::Rs) W.heap.size c0 c1 c2 c3 y ents u l wk wl wm wp :=
 ⟨h.lb,h.fb,h.bb,h.own,h.yo,h.be,fun r hr=>by
  rcases List.mem_cons.1 hr with rfl | hr
  ·exact ⟨h3,(Array.getElem?_eq_some_iff.1 hD).1,hD⟩
  ·exact ⟨(h.mr r hr).1,(Array.getElem?_eq_some_iff.1 (h.mr r hr).2.2).1,(h.mr r hr).2.2⟩,List.nodup_cons.2 ⟨fun hm=>by have:=(h.mr D hm).2.1;omega,h.nd⟩⟩
end
structure ScN (w3 W:World) (Rs:List Nat) (b:Nat) (c0 c1 c2 c3:Value) (y:Value) (ents:List ByteArray) (u l wk wl wm:Int) (wp op:ByteArray):Prop where
 sl:ScL w3 W Rs b c0 c1 c2 c3 y ents u l wk wl wm wp
 bu:Lib.IsBuilderF 160 5 b b (Lib.byteCells op.data.toList) W
 g1:W.heap[b+1]?=some (.cells #[c0,c1,c2,c3] 156 (0,0))
 g2:W.heap[b+2]?=some (.cells #[.int .i64 u] 3 (0,0))
 yb:∀ k,y.ownBlock=some k->k<b
 lo:w3.heap.size+2<b
section
variable {w3 W W':World} {Rs:List Nat} {b:Nat} {c0 c1 c2 c3:Value} {y:Value} {ents:List ByteArray} {u l wk wl wm:Int} {wp op:ByteArray}
theorem ScN.kept {row:Option Nat} (h:ScN w3 W Rs b c0 c1 c2 c3 y ents u l wk wl wm wp op) (hg:W.grownBy W' row) (hr:∀ r,row=some r->b<=r/\∃ o:Obj,W.heap[r]?=some o/\o.isCells=false):ScN w3 W' Rs b c0 c1 c2 c3 y ents u l wk wl wm wp op:=by
 have hb:∀ {g:Nat} {a:Array Value} {t:TypeId} {z:Nat×Nat},W.heap[g]?=some (.cells a t z)->W'.heap[g]?=some (.cells a t z):=fun hh=>(hg.block _ (Array.getElem?_eq_some_iff.1 hh).1 (fun e=>by
  obtain ⟨_,o,ho,hc⟩:=hr _ e.symm
  rw [hh] at ho;cases ho;cases hc)).trans hh
 exact ⟨h.sl.kept (by have:=h.lo;omega) hg hr,bu_kept h.bu hg (fun r e=>.inr (hr r e).2),hb h.g1,hb h.g2,h.yb,h.lo⟩
theorem ScN.alloc (h:ScN w3 W Rs b c0 c1 c2 c3 y ents u l wk wl wm wp op) (o:Obj):ScN w3 (W.alloc o) Rs b c0 c1 c2 c3 y ents u l wk wl wm wp op:=h.kept (World.grownBy_alloc W o none) (fun r e=>by cases e)
theorem ScN.setWas (h:ScN w3 W Rs b c0 c1 c2 c3 y ents u l wk wl wm wp op) (k' l' m':Int) (p':ByteArray) :
  ScN w3 ((((W.setCell ⟨w3.heap.size+2,0,none⟩ (.int .i64 k')).setCell ⟨w3.heap.size+2,1,none⟩ (.int .i64 l')).setCell ⟨w3.heap.size+2,2,none⟩ (.int .i64 m')).setCell ⟨w3.heap.size+2,3,none⟩ (.string p')) Rs b c0 c1 c2 c3 y ents u l k' l' m' p' op:=by
 have lo:=h.lo
 have g:∀ (X:World) (i:Nat) (v:Value),X.grownBy (X.setCell ⟨w3.heap.size+2,i,none⟩ v) (some (w3.heap.size+2)):=fun X i v=>⟨rfl,rfl,rfl,by simp,fun k _ hk=>Below.heap_setCell _ _ _ _ (fun e=>hk (by rw [e]))⟩
 have bs:∀ {X:World},Lib.IsBuilderF 160 5 b b (Lib.byteCells op.data.toList) X->∀ i v,Lib.IsBuilderF 160 5 b b (Lib.byteCells op.data.toList) (X.setCell ⟨w3.heap.size+2,i,none⟩ v):=fun hx i v=>bu_kept hx (g _ i v) (fun r e=>by cases e;exact .inl lo)
 have hs:∀ {X:World} {k:Nat} {o:Obj},k≠w3.heap.size+2->X.heap[k]?=some o->∀ i v,(X.setCell ⟨w3.heap.size+2,i,none⟩ v).heap[k]?=some o:=fun hk hx i v=>(Below.heap_setCell _ _ _ _ hk).trans hx
 have n1:b+1≠w3.heap.size+2:=by omega
 have n2:b+2≠w3.heap.size+2:=by omega
 exact ⟨h.sl.setWas k' l' m' p',bs (bs (bs (bs h.bu _ _) _ _) _ _) _ _,hs n1 (hs n1 (hs n1 (hs n1 h.g1 _ _) _ _) _ _) _ _,hs n2 (hs n2 (hs n2 (hs n2 h.g2 _ _) _ _) _ _) _ _,h.yb,h.lo⟩
theorem ScN.wrote (h:ScN w3 W Rs b c0 c1 c2 c3 y ents u l wk wl wm wp op) {op':ByteArray} (hb:Below b W W') (hk:Lib.OthersKept 5 (some b) W W') (hbu:Lib.IsBuilderF 160 5 b b (Lib.byteCells op'.data.toList) W') :
  ScN w3 W' Rs b c0 c1 c2 c3 y ents u l wk wl wm wp op' :=
 ⟨h.sl.low hb h.lo h.yb,hbu,hk _ _ h.g1 (by simp) (by intro c fz e;simp at e),hk _ _ h.g2 (by simp) (by intro c fz e;simp at e),h.yb,h.lo⟩
end
def InS {SF:Nat->ByteArray} {fm:Nat} {wd:Int} {N:Nat} (first:Int) (RES:Scd) (w3:World) (Rs:List Nat) (b:Nat) (c0 c1 c2 c3:Value) (y:Value) (ents:List ByteArray) (u:Nat) (l:Int) (pre:List (Pgs SF fm wd N)) (W:World):Prop :=
 ∃ wk wl wm wp op,ScN w3 W Rs b c0 c1 c2 c3 y ents (u:Int) l wk wl wm wp op/\op.size<=64*pre.length/\Chn first RES u pre wk wl op (ents,(u:Int),l)
def InX {SF:Nat->ByteArray} {fm:Nat} {wd:Int} {N:Nat} (first:Int) (RES:Scd) (w3:World) (Rs:List Nat) (b:Nat) (c0 c1 c2 c3:Value) (y:Value) (ents:List ByteArray) (u:Nat) (l:Int) (c:Code) (pre:List (Pgs SF fm wd N)) (W:World):Prop :=
 (c=.exit 0/\(∃ wk wl wm wp,ScL w3 W Rs b c0 c1 c2 c3 y ents (u:Int) l wk wl wm wp)/\(Good u pre->(ents,(u:Int),l)=RES)) ∨
 (c=.exit 1/\∃ (x:Nat) (y':Value) (ents':List ByteArray) (l' wk wl wm:Int) (wp:ByteArray),ScL w3 W Rs b c0 c1 c2 c3 y' ents' ((x+1:Nat):Int) l' wk wl wm wp/\x<N/\(Good u pre->u<=x/\ents'.length<=ents.length+1/\Chn (S:=SF) (frm:=fm) (n:=wd) (size:=N) first RES (x+1) [] wk wl ByteArray.empty (ents',((x+1:Nat):Int),l')))
section
variable {SF:Nat->ByteArray} {fm:Nat} {wd:Int} {N:Nat} {first:Int} {RES:Scd} {w3:World} {Rs:List Nat} {b:Nat} {c0 c1 c2 c3:Value} {y:Value} {ents:List ByteArray} {u:Nat} {l:Int}
theorem InS.own (B:Nat) (hB:b<=B):OwnFrom B (fun (pre:List (Pgs SF fm wd N)) W=>InS first RES w3 Rs b c0 c1 c2 c3 y ents u l pre W):=by
 rintro s X Y row ⟨wk,wl,wm,wp,op,hn,h1,h2⟩ hg hr
 exact ⟨wk,wl,wm,wp,op,hn.kept hg (fun r e=>⟨Nat.le_trans hB (hr r e).1,(hr r e).2⟩),h1,h2⟩
theorem InX.own (B:Nat) (hB:b<=B) (hlo:w3.heap.size<=b) (c:Code):OwnFrom B (fun (pre:List (Pgs SF fm wd N)) W=>InX first RES w3 Rs b c0 c1 c2 c3 y ents u l c pre W):=by
 rintro s X Y row h hg hr
 have hr':∀ r,row=some r->b<=r/\∃ o:Obj,X.heap[r]?=some o/\o.isCells=false:=fun r e=>⟨Nat.le_trans hB (hr r e).1,(hr r e).2⟩
 rcases h with ⟨hc,⟨wk,wl,wm,wp,hl⟩,hg2⟩ | ⟨hc,x,y',ents',l',wk,wl,wm,wp,hl,hx,hg2⟩
 ·exact .inl ⟨hc,⟨wk,wl,wm,wp,hl.kept hlo hg hr'⟩,hg2⟩
 ·exact .inr ⟨hc,x,y',ents',l',wk,wl,wm,wp,hl.kept hlo hg hr',hx,hg2⟩
end
theorem leaves_marks {F:Fence} {n:Nat} {P:Program} {fn:Func} {tmps:Array Value} {R:Ending->World->Prop} (B:Nat) (Pr:World->Prop) (hput:∀ W r,B<=r->W.heap[r]?=some (.deferred (some []))->Pr W->Pr (W.putObj r (.deferred none))) (hfin:∀ W,Pr W->LeavesIn F n P fn tmps R [] .returning W) :
  ∀ (Rs:List Nat) (W:World),Rs.Nodup->(∀ r∈Rs,B<=r/\W.heap[r]?=some (.deferred (some [])))->Pr W->LeavesInM F n P fn tmps R (Rs.map (fun r=>({ target:=.collected r,args:=#[] }:Deferred))) .returning W
 | [],W,_,_,hp=>hfin W hp
 | r::Rs,W,hn,hm,hp=>by
  have h0:=hm r (List.mem_cons_self ..)
  refine ⟨by simp,.inl ⟨r,_,rfl,run_takeDeferred h0.2,?_⟩⟩
  have hnr:=List.nodup_cons.1 hn
  refine leaves_marks B Pr hput hfin Rs _ hnr.2 (fun q hq=>?_) (hput W r h0.1 h0.2 hp)
  have h1:=hm q (List.mem_cons_of_mem _ hq)
  exact ⟨h1.1,(World.putObj_heap_other (fun e:q=r=>hnr.1 (by rw [<-e];exact hq))).trans h1.2⟩
def ScF1 (w w3:World) (RB:Nat) (y:Value) (ents:List ByteArray) (u l:Int) (X:World):Prop:=Row X RB [y,.int .i64 u,.int .i64 l]/\X.ownsRow w3.heap.size 9 1 y ents.length (ents.map Value.string)/\Below w.heap.size w X
theorem ScF1.put {w w3:World} {RB:Nat} {y:Value} {ents:List ByteArray} {u l:Int} (hw:w.heap.size<=w3.heap.size) (X:World) (r:Nat) (hr:w3.heap.size<=r) (hd:X.heap[r]?=some (.deferred (some []))) (h:ScF1 w w3 RB y ents u l X):ScF1 w w3 RB y ents u l (X.putObj r (.deferred none)):=by
 obtain ⟨h1,h2,h3⟩:=h
 have hrow:∀ q,some r=some q->∃ o:Obj,X.heap[q]?=some o/\o.isCells=false:=fun q e=>by cases e;exact ⟨_,hd,rfl⟩
 exact ⟨row_kept h1 (grownBy_putObj' X r _) (fun q e=>.inr (hrow q e)),own_kept h2 (grownBy_putObj' X r _) hrow,h3.grown (grownBy_putObj' X r _) h3.size (fun k e=>by cases e;omega)⟩
theorem ScL.fin {w w3 W:World} {Rs:List Nat} {M:Nat} {c0 c1 c2 c3:Value} {y:Value} {ents:List ByteArray} {u l wk wl wm:Int} {wp:ByteArray} {RB:Nat} {r0 r1 r2:Value} (h:ScL w3 W Rs M c0 c1 c2 c3 y ents u l wk wl wm wp) (hr:Row w3 RB [r0,r1,r2]) (hR:w.heap.size<=RB) (hb:Below w.heap.size w w3) :
  ScF1 w w3 RB y ents u l (((W.setCell ⟨RB,0,none⟩ y).setCell ⟨RB,1,none⟩ (.int .i64 u)).setCell ⟨RB,2,none⟩ (.int .i64 l))/\(∀ r∈Rs,w3.heap.size<=r/\(((W.setCell ⟨RB,0,none⟩ y).setCell ⟨RB,1,none⟩ (.int .i64 u)).setCell ⟨RB,2,none⟩ (.int .i64 l)).heap[r]?=some (.deferred (some []))):=by
 have hl:=hr.lt
 have hrW:Row W RB [r0,r1,r2]:=⟨Nat.lt_of_lt_of_le hl h.be.size,fun i v hv=>(World.cell?_of_block (a:=⟨_,i,none⟩) (h.be.block _ hl)).trans (hr.cell i v hv),fun i hi=>(World.frozen?_of_block (a:=⟨_,i,none⟩) (h.be.block _ hl)).trans (hr.froz i hi)⟩
 have hy:y.ownBlock≠some RB:=fun e=>by have:=h.yo RB e;omega
 refine ⟨⟨((hrW.set 0 (by simp) _).set 1 (by simp) _).set 2 (by simp) _,ownsRow_setCell_other (ownsRow_setCell_other (ownsRow_setCell_other h.own hy _) hy _) hy _,(((hb.trans (h.be.mono hb.size)).setCell hR _).setCell hR _).setCell hR _⟩,fun r hrr=>⟨(h.mr r hrr).1,?_⟩⟩
 have hn:r≠RB:=by have:=(h.mr r hrr).1;omega
 rw [Below.heap_setCell _ _ _ _ hn,Below.heap_setCell _ _ _ _ hn,Below.heap_setCell _ _ _ _ hn]
 exact (h.mr r hrr).2.2
end Go.Proofs.YtcoegjnjjdndjaaGreatDoor
