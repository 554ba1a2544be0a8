import Derived.Test.YtcoegjnjjdndjaaGreatDoorPrG49
import Derived.WalkKit
import Derived.WalkSpells
import Derived.WalkLawsBesides
import Derived.Outline
import Derived.BigQuiet
import Derived.Deep.QuietTactic
import Derived.Deep.RegionHeld3
import Derived.Test.YtcoegjnjjdndjaaGreatDoorPrG48
import Derived.Test.YtcoegjnjjdndjaaGreatDoorPrG44
import Derived.Deep.AppendLies
import Derived.Deep.AppendSrc
import Derived.Test.YtcoegjnjjdndjaaGreatDoorPrG32
set_option maxHeartbeats 16000000
set_option maxRecDepth 8000
set_option linter.unusedVariables false
set_option linter.unusedSimpArgs false
namespace Go.Proofs.YtcoegjnjjdndjaaGreatDoor
open Go.RowKit
@[reducible] def stV (a:Option Addr) (n c:Nat):Value:=.agg #[.slice a n c]
set_option maxHeartbeats 16000000 in
theorem sz_state (a:Option Addr) (rs:List (ByteArray×ByteArray)) (c:Nat) (w:World) (h:Prs w a rs) (left:Int) (h0:0<=left) (h1:left<=1048576) (hl:rs.length<=maxLen) (hs:∀ s∈rs,s.1.size<=maxLen/\s.2.size<=maxLen) :
  Calls Tryz.prog 38 #[stV a rs.length c,.int .i64 left] w fun e w'=>e=.returned (.int .i64 (szL (rs.length::rs.flatMap prsz) left))/\Below w.heap.size w w':=by
 have hb0:∀ o,Below w.heap.size w (w.alloc o):=fun o=>(Below.refl _ _).alloc (Nat.le_refl _) _
 have hbd:=szL_bd (rs.length::rs.flatMap prsz) left (by omega)
 obtain ⟨x,HX⟩:∃ x,Hid (x=szL (rs.length::rs.flatMap prsz) left):=⟨_,hid rfl⟩
 rw [<-HX.out] at hbd ⊢
 by_cases hx:x<0
 ·have hx1:x=-1:=by omega
  have HX1:=hid hx1
  clear hbd hx1
  go_enter Tryz.func38,Tryz.ntmps38
  go_wp2_with fail
  refine (sz_prs a rs c left _ (h.below (hb0 _)) (by omega) (by omega) hl hs).mono ?_
  rw [<-HX.out]
  rintro e w1 ⟨rfl,hb1⟩
  go_wp2
  go_ret
  exact ⟨ret_int HX1.out.symm,(hb0 _).trans (hb1.mono (by simp))⟩
 ·clear hbd
  go_enter Tryz.func38,Tryz.ntmps38
  go_wp2_with fail
  refine (sz_prs a rs c left _ (h.below (hb0 _)) (by omega) (by omega) hl hs).mono ?_
  rw [<-HX.out]
  rintro e w1 ⟨rfl,hb1⟩
  go_wp2
  go_ret
  exact ⟨rfl,(hb0 _).trans (hb1.mono (by simp))⟩
set_option maxHeartbeats 16000000 in
theorem to_state (a:Option Addr) (rs:List (ByteArray×ByteArray)) (c:Nat) (w:World) (h:Prs w a rs) (hl:rs.length<=1048576) :
  Calls Tryz.prog 56 #[stV a rs.length c] w fun e w'=>∃ g,e=.returned (stV (some ⟨g,0,none⟩) rs.length rs.length)/\w.heap.size<=g/\Row w' g (prcells rs)/\Below w.heap.size w w':=by
 have hb0:∀ o1 o2 o3,Below w.heap.size w (((w.alloc o1).alloc o2).alloc o3):=fun o1 o2 o3=>(((Below.refl _ _).alloc (Nat.le_refl _) _).alloc (by simp) _).alloc (by simp;omega) _
 go_enter Tryz.func56,Tryz.ntmps56
 go_wp2_with fail
 refine (to_prs a rs c _ (h.below (hb0 _ _ _)) hl).mono ?_
 rintro e w1 ⟨g,rfl,hg,hr1,hb1⟩
 have hB1:=(hb0 _ _ _).trans (hb1.mono (by simp;omega))
 have hs1:=hb1.size
 simp only [World.size_alloc] at hg hs1
 have c20:w1.cell? ⟨w.heap.size+1+1,0,none⟩=some (.slice none 0 0):=(hb1.cell (p:=⟨w.heap.size+1+1,0,none⟩) (by simp)).trans (by go_simp)
 have f20:w1.frozen? ⟨w.heap.size+1+1,0,none⟩=false:=(hb1.frozen (p:=⟨w.heap.size+1+1,0,none⟩) (by simp)).trans (by go_simp)
 have c10:w1.cell? ⟨w.heap.size+1,0,none⟩=some (.slice none 0 0):=(hb1.cell (p:=⟨w.heap.size+1,0,none⟩) (by simp<;>omega)).trans (by go_simp)
 have f10:w1.frozen? ⟨w.heap.size+1,0,none⟩=false:=(hb1.frozen (p:=⟨w.heap.size+1,0,none⟩) (by simp<;>omega)).trans (by go_simp)
 have HR1:=hid hr1
 have HBB:=hid hB1
 clear hb1 hr1 hB1
 go_wp2
 refine bodyPost_ret (v:=stV (some ⟨g,0,none⟩) rs.length rs.length) (by simp [results,Tryz.results56,go_sem,c10]) rfl ⟨g,rfl,by omega,?_,?_⟩
 ·exact (HR1.out.other _ (by show w.heap.size+1+1≠g;omega) _).other _ (by show w.heap.size+1≠g;omega) _
 ·exact (HBB.out.setCell (by show w.heap.size<=w.heap.size+1+1;omega) _).setCell (by show w.heap.size<=w.heap.size+1;omega) _
set_option maxHeartbeats 16000000 in
theorem eq_state (a b:Option Addr) (rs:List (ByteArray×ByteArray)) (c d:Nat) (w:World) (h1:Prs w a rs) (h2:Prs w b rs) (hl:rs.length<=1048576) :
  Calls Tryz.prog 8 #[stV a rs.length c,stV b rs.length d] w fun e w'=>e=.returned (.bool true)/\Below w.heap.size w w':=by
 have hb0:∀ o1 o2,Below w.heap.size w ((w.alloc o1).alloc o2):=fun o1 o2=>((Below.refl _ _).alloc (Nat.le_refl _) _).alloc (by simp) _
 go_enter Tryz.func8,Tryz.ntmps8
 go_wp2_with fail
 refine (eq_prs a b rs c d _ (h1.below (hb0 _ _)) (h2.below (hb0 _ _)) hl).mono ?_
 rintro e w1 ⟨rfl,hb1⟩
 have hB1:=(hb0 _ _).trans (hb1.mono (by simp;omega))
 clear hb1
 go_wp2
 go_ret
 exact ⟨rfl,hB1⟩
theorem getxp {w:World} {g:Nat} {cs:List Value} (h:Row w g cs) (i:Nat) (hi:i<cs.length):(∃ u,w.cell? ⟨g,i,none⟩=some u)/\w.frozen? ⟨g,i,none⟩=false:=⟨⟨_,h.cell i _ (List.getElem?_eq_getElem hi)⟩,h.froz i hi⟩
def prm (m:Nat):ByteArray×ByteArray:=(mtext m,mtext (m+1))
def prmarks (k n:Nat):List (ByteArray×ByteArray):=(List.range n).map fun i=>prm (k+2*i)
theorem prmarks_length (k n:Nat):(prmarks k n).length=n:=by simp [prmarks]
theorem prmarks_succ (k n:Nat):prmarks k (n+1)=prmarks k n++[prm (k+2*n)]:=by simp [prmarks,List.range_succ]
def prmixed (k i:Nat) (rs:List (ByteArray×ByteArray)):List Value:=prcells (prmarks k i++rs.drop i)
theorem prmixed_length (k i:Nat) (rs:List (ByteArray×ByteArray)) (h:i<=rs.length):(prmixed k i rs).length=rs.length*2:=by simp [prmixed,prcells_length,prmarks_length];omega
theorem prmixed_set (k i:Nat) (rs:List (ByteArray×ByteArray)) (h:i<rs.length):((prmixed k i rs).set (i*2) (.string (mtext (k+2*i)))).set (i*2+1) (.string (mtext (k+2*i+1)))=prmixed k (i+1) rs:=by
 have el:(prcells (prmarks k i)).length=i*2:=by rw [prcells_length,prmarks_length]
 unfold prmixed
 rw [prmarks_succ,drop_at rs i (ByteArray.empty,ByteArray.empty) h,prcells_append,prcells_append,prcells_append,List.set_append_right _ _ (by omega),List.set_append_right _ _ (by omega),el]
 simp [prcells,prm]
set_option maxHeartbeats 16000000 in
theorem mark_prs (a:Option Addr) (rs:List (ByteArray×ByteArray)) (c k:Nat) (w:World) (h:OwnS w a (prcells rs)) (hk:0<k) (hl:k+2*rs.length<=100000000) :
  Calls Tryz.prog 35 #[.slice a rs.length c,.int .i64 (k:Int)] w fun e w'=>e=.returned (.int .i64 ((k+2*rs.length:Nat):Int))/\w.grownBy w' (blk a rs.length)/\OwnS w' a (prcells (prmarks k rs.length)):=by
 by_cases hss:rs=[]
 ·skip
  subst hss
  go_enter Tryz.func35,Tryz.ntmps35
  go_wp2
  refine wp_loop_rounds 1 ?_
  rw [rounds_succ]
  go_wp2
  go_ret
  exact ⟨rfl,grown_refl _ _,.inl rfl⟩
 ·obtain ⟨g,rfl,hrow⟩:=h.resolve_left (fun e=>hss (by have:=congrArg List.length e;rw [prcells_length,List.length_nil] at this;exact List.eq_nil_of_length_eq_zero (by omega)))
  rw [blk_pos g 0 rs.length (fun e=>hss (List.eq_nil_of_length_eq_zero e))]
  have hr0:Row w g (prmixed k 0 rs):=by simpa [prmixed,prmarks] using hrow
  clear hrow hss
  go_enter Tryz.func35,Tryz.ntmps35
  go_wp2
  go_loopw [1,5] (fun x i wr=>∃ j m:Nat,j<=rs.length/\i=.int .i64 (j:Int)/\x=.int .i64 (m:Int)/\Hid (m=k+2*j)/\Row wr g (prmixed k j rs)/\w.grownBy wr (some g)) (fun _ i _=>rs.length-(intOf i).toNat)
  case atStart=>exact ⟨0,k,Nat.zero_le _,rfl,rfl,hid rfl,hr0,grown_refl _ _⟩
  case round =>
   clear hr0
   obtain ⟨j,m,hj,rfl,rfl,HM,hrow,hgr⟩:=hrel
   have HR:=hid hrow
   have HG:=hid hgr
   clear hgr hrow
   by_cases hlt:j<rs.length
   ·have HL:=hid (prmixed_length k j rs hj)
    have hmj:(m:Int)<=99999998:=by have:=HM.out;omega
    have hmj0:(0:Int)<(m:Int):=by have:=HM.out;omega
    go_wp2_with (first | (have _g:=HR2;go_at_call 75;refine (mark_text' ((m:Int)+1) (m+1) (by omega) _ (by omega) (by omega)).mono ?_;rintro e w3 ⟨rfl,hb3⟩;have HR3:=hid ((HR2.out.set (j*2) (by rw [HL.out];omega) (.string (mtext m))).below hb3);have hu3:=getxp HR3.out (j*2+1) (by rw [List.length_set,HL.out];omega);obtain ⟨⟨u3,hu3⟩,hf3⟩:=hu3;have HG3:=hid (grown_trans (grown_set HG2.out _ _) (grown_of_below _ hb3));clear hb3) | (go_at_call 75;refine (mark_text m _ (by omega) (by omega)).mono ?_;rintro e w2 ⟨rfl,hb2⟩;have HR2:=hid (HR.out.below hb2);have hu2:=getxp HR2.out (j*2) (by rw [HL.out];omega);obtain ⟨⟨u2,hu2⟩,hf2⟩:=hu2;have HG2:=hid (grown_trans HG.out (grown_of_below _ hb2));clear hb2))
    have hset:((prmixed k j rs).set (j*2) (.string (mtext m))).set (j*2+1) (.string (mtext (m+1)))=prmixed k (j+1) rs:=by
     rw [HM.out];exact prmixed_set k j rs hlt
    refine ⟨⟨j+1,m+2,by omega,by go_num,by go_num,by show _=_;have:=HM.out;omega,?_,grown_set HG3.out _ _⟩,by simp [intOf];omega⟩
    rw [<-hset]
    exact HR3.out.set (j*2+1) (by rw [List.length_set,HL.out];omega) _
   ·have hjl:Hid (j=rs.length):=by show _=_;omega
    go_wp2
    go_ret
    refine ⟨ret_int (by rw [HM.out,hjl.out]),HG.out,.inr ⟨g,rfl,?_⟩⟩
    have:=HR.out
    rw [hjl.out] at this
    simpa [prmixed] using this
set_option maxHeartbeats 16000000 in
theorem mark_state (a:Option Addr) (rs:List (ByteArray×ByteArray)) (c k:Nat) (w:World) (h:OwnS w a (prcells rs)) (hk:0<k) (hl:k+2*rs.length<=100000000) :
  Calls Tryz.prog 11 #[stV a rs.length c,.int .i64 (k:Int)] w fun e w'=>e=.returned (.int .i64 ((k+2*rs.length:Nat):Int))/\w.grownBy w' (blk a rs.length)/\OwnS w' a (prcells (prmarks k rs.length)):=by
 have hb0:∀ o,Below w.heap.size w (w.alloc o):=fun o=>(Below.refl _ _).alloc (Nat.le_refl _) _
 go_enter Tryz.func11,Tryz.ntmps11
 go_wp2_with fail
 refine (mark_prs a rs c k _ (h.below (hb0 _)) hk hl).mono ?_
 rintro e w1 ⟨rfl,hg1,ho1⟩
 have HG:=hid (grown_trans (grown_of_below (blk a rs.length) (hb0 _)) hg1)
 have HO:=hid ho1
 clear hg1 ho1
 go_wp2
 go_ret
 exact ⟨rfl,HG.out,HO.out⟩
theorem info_prC:(Tryz.prog.info? 111).map (fun i=>(i.zero,i.size,i.bytes))=some (some (.agg #[.string ByteArray.empty,.string ByteArray.empty]),2,32):=by kernel_rfl
theorem info_partsP {P:Program} {e:TypeId} {z:Value} {size bytes:Nat} (h:(P.info? e).map (fun i=>(i.zero,i.size,i.bytes))=some (some z,size,bytes)):∃ i,P.info? e=some i/\i.zero=some z/\i.size=size/\i.bytes=bytes:=by
 obtain ⟨i,hi,hh⟩:=Option.map_eq_some_iff.1 h
 simp only [Prod.mk.injEq] at hh
 exact ⟨i,hi,hh⟩
theorem nscP (n:Nat) (h:0<n):Builtin.nextslicecap n 0=n:=by
 unfold Builtin.nextslicecap
 simp
 omega
theorem copy_run {P:Program} {w:World} (t ty e:TypeId) (i:TypeInfo) (z:Value) (size bytes:Nat) (ht:P.underlying t=some (.slice e)) (hi:P.info? e=some i) (hz:i.zero=some z) (hsize:i.size=size) (hby:i.bytes=bytes)
  (base:Option Addr) (hbase:base=none\/∃ b,base=some ⟨b,0,none⟩) (v:Value) (n:Nat) (news:List Value) (hsrc:Src P size t v n news w) (hn:n<=1048576) (hbn:n*bytes<=281474976710656) :
  ∃ a' cap wx,(Builtin.append_ #[t,t] ty #[.slice base 0 0,v]).run P w=.ok (.slice a' n cap) wx/\n<=cap/\(n=0\/(a'=some ⟨w.heap.size,0,none⟩/\Row wx w.heap.size news))/\Below w.heap.size w wx:=by
 subst hsize hby
 by_cases h0:n=0
 ·subst h0
  have hnil:news=[]:=List.eq_nil_of_length_eq_zero (by have:=hsrc.newsLen;omega)
  subst hnil
  rcases hbase with rfl | ⟨b,rfl⟩
  ·refine ⟨none,0,w,?_,Nat.le_refl _,.inl rfl,Below.refl _ _⟩
   rcases hsrc.kind with ⟨e',hk⟩ | hk<;>simp [Builtin.append_,run_underlying ht,run_underlying hk,sizeOf,typeInfo,hi,hsrc.len,hsrc.cells]
  ·have hrun:=run_append_room_src (P:=P) w t t ty e i ht hi b 0 0 0 v 0 [] hsrc (by omega) (by simp) (by simp)
   exact ⟨_,_,_,hrun,Nat.le_refl _,.inl rfl,Below.refl _ _⟩
 ·have hold:(Builtin.firstCells i.size 0 (.slice base 0 0)).run P w.drew=.ok ([]:List Value).toArray w.drew:=by
   rcases hbase with rfl | ⟨b,rfl⟩
   ·simp [Builtin.firstCells,Sem.run_pure]
   ·exact run_firstCells_some w.drew i.size 0 _ 0 0 [] (by simp) (by simp)
  have hrun:=run_append_grow_src (P:=P) w t t ty e i z ht hi hz base 0 0 [] hold v n news hsrc (by omega) (by omega) (by rw [Nat.zero_add,nscP n (by omega)];exact hbn)
  refine ⟨_,_,_,by rw [hrun,Nat.zero_add],?_,.inr ⟨rfl,?_⟩,(Below.refl _ _).drew.alloc (Nat.le_refl _) _⟩
  ·have:=grownCap_ge w (0+n) 0 e
   rw [Nat.zero_add] at this
   exact this
  have hr:=row_new w.drew ((([]:List Value)++news).toArray++Builtin.zeroCells z.cells (grownCap w (0+n) 0 e-(0+n))) e
  refine ⟨by simp,fun j u hu=>?_,fun j hj=>?_⟩
  ·have:=hr.cell j u (by
    obtain ⟨hj,_⟩:=List.getElem?_eq_some_iff.1 hu
    simp [List.getElem?_append_left hj,hu])
   simpa using this
  ·have:=hr.froz j (by simp;omega)
   simpa using this
theorem wpList_append_copy {P:Program} {w:World} {ops:Array Oper} {rest:List Oper} {o:Oper} {a:Act} {Q:Exit->Act->World->Prop} (hgd:o.guard=none) (s x:Operand) (t:TypeId)
  (ho:o.op=.call { callee:=.builtin .append,args:=#[s,x],argTypes:=#[t,t] }) (e:TypeId) (i:TypeInfo) (z:Value) (size bytes:Nat) (ht:P.underlying t=some (.slice e)) (hi:P.info? e=some i) (hz:i.zero=some z) (hsize:i.size=size) (hby:i.bytes=bytes)
  (base:Option Addr) (hs:a.eval s=.slice base 0 0) (hbase:base=none\/∃ b,base=some ⟨b,0,none⟩) (v:Value) (hx:a.eval x=v) (n:Nat) (news:List Value) (hsrc:Src P size t v n news w) (hn:n<=1048576) (hbn:n*bytes<=281474976710656)
  (h:∀ a' cap wx,n<=cap->(n=0\/(a'=some ⟨w.heap.size,0,none⟩/\Row wx w.heap.size news))->Below w.heap.size w wx->wpList P ops Q rest (a.put o.dst (.slice a' n cap)) wx):wpList P ops Q (o::rest) a w:=by
 refine wpList_plain hgd fun K hK=>?_
 obtain ⟨a',cap,wx,hrun,h1,h2,h3⟩:=copy_run (P:=P) (w:=w) t o.type e i z size bytes ht hi hz hsize hby base hbase v n news hsrc hn hbn
 unfold Oper.wp
 simp [execOp,ho,resolve,invoke,builtin,hs,hx,hrun,Result.andThen]
 exact hK _ _ (h a' cap wx h1 h2 h3)
theorem src_prs {P:Program} {w:World} {a:Option Addr} {rs:List (ByteArray×ByteArray)} (h:Prs w a rs) (t e:TypeId) (ht:P.underlying t=some (.slice e)) (c:Nat):Src P 2 t (.slice a rs.length c) rs.length (prcells rs) w:=by
 rcases h with h | ⟨b,o,rfl,hb,hc⟩
 ·subst h
  cases a with
  | none=>exact Src.ofNil w ht c
  | some x=>exact Src.ofSlice w ht x 0 c [] (by simp) (by simp) (by simp)
 ·refine Src.ofSlice w ht ⟨b,o,none⟩ rs.length c _ (prcells_length rs) (fun j u hu=>?_) (fun u hu=>?_)
  ·obtain ⟨hj,e⟩:=List.getElem?_eq_some_iff.1 hu
   rw [prcells_length] at hj
   have ha:(⟨b,o,none⟩:Addr).add j=⟨b,o+j,none⟩:=by unfold Addr.add;split<;>simp_all
   obtain ⟨q,hq⟩:∃ q,j=q*2\/j=q*2+1:=⟨j / 2,by omega⟩
   have hql:q<rs.length:=by omega
   have hw:=prcells_at rs q hql
   rcases hq with rfl | rfl
   ·rw [ha,(hc q hql).1,<-hu,hw.1]
   ·rw [ha,<-Nat.add_assoc,(hc q hql).2,<-hu,hw.2]
  ·unfold prcells at hu
   obtain ⟨x,_,hx⟩:=List.mem_flatMap.1 hu
   simp at hx
   rcases hx with rfl | rfl<;>rfl
def CpPost (w w':World) (e:Ending) (rs:List (ByteArray×ByteArray)):Prop:=∃ a c,e=.returned (stV a rs.length c)/\rs.length<=c/\OwnS w' a (prcells rs)/\(∀ g,blk a rs.length=some g->w.heap.size<=g)/\Below w.heap.size w w'
theorem cp_endP {w wx:World} {a':Option Addr} {rs:List (ByteArray×ByteArray)} {H:Nat} (h:rs.length=0\/(a'=some ⟨H,0,none⟩/\Row wx H (prcells rs))) (hH:w.heap.size<=H):OwnS wx a' (prcells rs)/\(∀ g,blk a' rs.length=some g->w.heap.size<=g/\g=H):=by
 rcases h with h | ⟨rfl,hr⟩
 ·have:rs=[]:=List.eq_nil_of_length_eq_zero h
  subst this
  exact ⟨.inl rfl,fun g hg=>by cases hg⟩
 ·refine ⟨.inr ⟨H,rfl,hr⟩,fun g hg=>?_⟩
  by_cases h0:rs.length=0
  ·rw [h0] at hg;cases hg
  ·rw [blk_pos _ _ _ h0] at hg;cases hg;exact ⟨hH,rfl⟩
set_option maxHeartbeats 16000000 in
theorem copy_st_s (a:Option Addr) (rs:List (ByteArray×ByteArray)) (c:Nat) (w:World) (h:Prs w a rs) (hl:rs.length<=1048576) :
  Calls Tryz.prog 19 #[stV a rs.length c] w fun e w'=>CpPost w w' e rs:=by
 obtain ⟨i0,hi0,hz0,hz1,hz2⟩:=info_partsP info_prC
 have HI:=hid (And.intro hi0 (And.intro hz0 (And.intro hz1 hz2)))
 clear hi0 hz0 hz1 hz2
 have hb0:∀ o1 o2 o3,Below w.heap.size w (((w.alloc o1).alloc o2).alloc o3):=fun o1 o2 o3=>(((Below.refl _ _).alloc (Nat.le_refl _) _).alloc (by simp) _).alloc (by simp;omega) _
 go_enter Tryz.func19,Tryz.ntmps19
 go_wp2_with (at_builtin;refine wpList_append_copy rfl _ _ 37 rfl 111 i0 _ 2 32 Tryz.underlying37 HI.out.1 HI.out.2.1 HI.out.2.2.1 HI.out.2.2.2 _ rfl (.inr ⟨_,rfl⟩) _ rfl rs.length _ (src_prs (h.below (hb0 _ _ _)) _ _ Tryz.underlying37 c) hl (by omega) ?_;intro a' cap wx hcap hrow hbx;have c1:wx.cell? ⟨w.heap.size+1,0,none⟩=some (.slice none 0 0):=(hbx.cell (p:=⟨w.heap.size+1,0,none⟩) (by simp<;>omega)).trans (by go_simp);have f1:wx.frozen? ⟨w.heap.size+1,0,none⟩=false:=(hbx.frozen (p:=⟨w.heap.size+1,0,none⟩) (by simp<;>omega)).trans (by go_simp);have HBX:=hid ((hb0 _ _ _).trans (hbx.mono (by simp<;>omega)));have HRW:=hid (cp_endP (w:=w) hrow (by simp;omega));have hszx:w.heap.size+1<wx.heap.size:=Nat.lt_of_lt_of_le (by simp) hbx.size;clear hrow hbx)
 refine bodyPost_ret (v:=stV a' rs.length cap) (by simp [results,Tryz.results19,go_sem,c1]) rfl ⟨a',cap,rfl,hcap,?_,fun g hg=>(HRW.out.2 g hg).1,HBX.out.setCell (by show w.heap.size<=w.heap.size+1;omega) _⟩
 rcases HRW.out.1 with h1 | ⟨g,rfl,h1⟩
 ·exact .inl h1
 ·by_cases h0:rs.length=0
  ·exact .inl (by rw [List.eq_nil_of_length_eq_zero h0];rfl)
  ·have:=(HRW.out.2 g (blk_pos _ _ _ h0)).2
   exact .inr ⟨g,rfl,h1.other _ (by show w.heap.size+1≠g;rw [this];simp<;>omega) _⟩
abbrev OpT:=Bool×Int×ByteArray
def Ops (w:World) (a:Option Addr) (rs:List (Bool×Int×ByteArray)):Prop :=
 rs=[]\/∃ b o,a=some ⟨b,o,none⟩/\b<w.heap.size/\∀ i,i<rs.length->w.cell? ⟨b,o+i*3,none⟩=some (.bool (rs.getD i (false,0,ByteArray.empty)).1)/\w.cell? ⟨b,o+i*3+1,none⟩=some (.int .i64 (rs.getD i (false,0,ByteArray.empty)).2.1)/\w.cell? ⟨b,o+i*3+2,none⟩=some (.string (rs.getD i (false,0,ByteArray.empty)).2.2)
theorem Ops.below {w w':World} {a:Option Addr} {rs:List (Bool×Int×ByteArray)} (h:Ops w a rs) (hb:Below w.heap.size w w'):Ops w' a rs:=by
 rcases h with h | ⟨b,o,h1,h2,h3⟩
 ·exact .inl h
 ·exact .inr ⟨b,o,h1,Nat.lt_of_lt_of_le h2 hb.size,fun i hi=>⟨(hb.cell (p:=⟨b,o+i*3,none⟩) h2).trans (h3 i hi).1,(hb.cell (p:=⟨b,o+i*3+1,none⟩) h2).trans (h3 i hi).2.1,(hb.cell (p:=⟨b,o+i*3+2,none⟩) h2).trans (h3 i hi).2.2⟩⟩
theorem Ops.at {w:World} {a:Option Addr} {rs:List (Bool×Int×ByteArray)} (h:Ops w a rs) {k:Nat} (hk:k<rs.length):∃ b o g0 n1 s2,a=some ⟨b,o,none⟩/\w.cell? ⟨b,o+k*3,none⟩=some (.bool g0)/\w.cell? ⟨b,o+k*3+1,none⟩=some (.int .i64 n1)/\w.cell? ⟨b,o+k*3+2,none⟩=some (.string s2)/\Hid ((g0,n1,s2)=rs.getD k (false,0,ByteArray.empty)):=by
 rcases h with h | ⟨b,o,h1,h2,h3⟩
 ·subst h;simp at hk
 ·exact ⟨b,o,_,_,_,h1,(h3 k hk).1,(h3 k hk).2.1,(h3 k hk).2.2,hid rfl⟩
def opcells (rs:List (Bool×Int×ByteArray)):List Value:=rs.flatMap fun x=>[.bool x.1,.int .i64 x.2.1,.string x.2.2]
theorem opcells_append (a b:List (Bool×Int×ByteArray)):opcells (a++b)=opcells a++opcells b:=by simp [opcells]
theorem opcells_length (rs:List (Bool×Int×ByteArray)):(opcells rs).length=rs.length*3:=by
 induction rs with
 | nil=>rfl
 | cons x r ih=>simp [opcells] at ih ⊢;omega
theorem opcells_at:∀ (rs:List (Bool×Int×ByteArray)) (i:Nat),i<rs.length->(opcells rs)[i*3]?=some (.bool (rs.getD i (false,0,ByteArray.empty)).1)/\(opcells rs)[i*3+1]?=some (.int .i64 (rs.getD i (false,0,ByteArray.empty)).2.1)/\(opcells rs)[i*3+2]?=some (.string (rs.getD i (false,0,ByteArray.empty)).2.2)
 | x::r,0,_=>by simp [opcells]
 | x::r,i+1,h=>by
  have ih:=opcells_at r i (by simpa using h)
  have e:opcells (x::r)=.bool x.1::.int .i64 x.2.1::.string x.2.2::opcells r:=by simp [opcells]
  rw [e,show (i+1)*3=i*3+3 by omega]
  simpa using ih
theorem Row.ops {w:World} {g:Nat} {rs:List (Bool×Int×ByteArray)} (h:Row w g (opcells rs)):Ops w (some ⟨g,0,none⟩) rs :=
 .inr ⟨g,0,rfl,h.lt,fun i hi=>by
  rw [Nat.zero_add]
  exact ⟨h.cell _ _ (opcells_at rs i hi).1,h.cell _ _ (opcells_at rs i hi).2.1,h.cell _ _ (opcells_at rs i hi).2.2⟩⟩
structure Dd where
 (C W S L T H F R U O:Int)
 rs:List Pr
 ops:List OpT
def dnV (d:Dd) (a:Option Addr) (c:Nat) (b:Option Addr) (e:Nat):Value:=.agg #[.int .i64 d.C,.int .i64 d.W,.int .i64 d.S,.int .i64 d.L,.int .i64 d.T,.int .i64 d.H,.int .i64 d.F,.int .i64 d.R,.int .i64 d.U,.int .i64 d.O,.slice a d.rs.length c,.slice b d.ops.length e]
def Apart (a:Option Addr) (n:Nat) (b:Option Addr) (m:Nat):Prop:=blk a n=none\/blk b m=none\/blk a n≠blk b m
structure OwnDn (w:World) (rs:List Pr) (ops:List OpT) (a b:Option Addr):Prop where
 s:OwnS w a (prcells rs)
 p:OwnS w b (opcells ops)
 ne:Apart a rs.length b ops.length
theorem OwnDn.below {w w':World} {rs:List Pr} {ops:List OpT} {a b:Option Addr} (h:OwnDn w rs ops a b) (hb:Below w.heap.size w w'):OwnDn w' rs ops a b:=⟨h.s.below hb,h.p.below hb,h.ne⟩
theorem OwnS.prs {w:World} {a:Option Addr} {rs:List Pr} (h:OwnS w a (prcells rs)):Prs w a rs:=by
 rcases h with h | ⟨g,rfl,h⟩
 ·exact .inl (by have:=congrArg List.length h;rw [prcells_length,List.length_nil] at this;exact List.eq_nil_of_length_eq_zero (by omega))
 ·exact h.prs
theorem OwnS.ops {w:World} {a:Option Addr} {rs:List OpT} (h:OwnS w a (opcells rs)):Ops w a rs:=by
 rcases h with h | ⟨g,rfl,h⟩
 ·exact .inl (by have:=congrArg List.length h;rw [opcells_length,List.length_nil] at this;exact List.eq_nil_of_length_eq_zero (by omega))
 ·exact h.ops
theorem ne_of_prcells {rs:List Pr} (h:prcells rs≠[]):rs.length≠0:=fun e=>h (by rw [List.eq_nil_of_length_eq_zero e];rfl)
theorem ne_of_opcells {rs:List OpT} (h:opcells rs≠[]):rs.length≠0:=fun e=>h (by rw [List.eq_nil_of_length_eq_zero e];rfl)
def DnPost (w w':World) (x:Ending) (d:Dd):Prop:=∃ a c b e,x=.returned (dnV d a c b e)/\d.rs.length<=c/\OwnDn w' d.rs d.ops a b/\(∀ g,blk a d.rs.length=some g->w.heap.size<=g)/\(∀ g,blk b d.ops.length=some g->w.heap.size<=g)/\Below w.heap.size w w'
def noD (C:Int):Dd:=⟨C,0,0,0,0,0,0,0,0,0,[],[]⟩
theorem OwnS.set' {w:World} {a:Option Addr} {cs:List Value} (h:OwnS w a cs) (p:Addr) (hp:∀ g,a=some ⟨g,0,none⟩->cs≠[]->p.block≠g) (v:Value):OwnS (w.setCell p v) a cs:=by
 by_cases h0:cs=[]
 ·exact .inl h0
 ·obtain ⟨g,rfl,hr⟩:=h.resolve_left h0
  exact .inr ⟨g,rfl,hr.other p (hp g rfl h0) v⟩
theorem row_at {w:World} {A:Array Value} {t:TypeId} {g:Nat} (hg:w.heap.size=g):Row (w.alloc (.cells A t)) g A.toList:=by subst hg;exact row_new w A t
theorem dn_no {w w':World} {x:Ending} {C:Int} {a b:Option Addr} {c e:Nat} (hx:x=.returned (dnV (noD C) a c b e)) (hb:Below w.heap.size w w'):DnPost w w' x (noD C) :=
 ⟨a,c,b,e,hx,Nat.zero_le _,⟨.inl rfl,.inl rfl,.inl rfl⟩,fun g h=>(by cases h),fun g h=>(by cases h),hb⟩
theorem OwnS.drew' {w:World} {a:Option Addr} {cs:List Value} (h:OwnS w a cs):OwnS w.drew a cs:=h.below (Below.refl _ _).drew
structure Dep (w:World) (lo hi:Nat) (F:World->Prop):Prop where
 now:F w
 top:hi<=w.heap.size
 keep:∀ w':World,(∀ b,lo<=b->b<hi->w'.heap[b]?=w.heap[b]?)->hi<=w'.heap.size->F w'
theorem Dep.below {w w':World} {lo hi:Nat} {F:World->Prop} (h:Dep w lo hi F) (hb:Below w.heap.size w w'):Dep w' lo hi F :=
 ⟨h.keep w' (fun b _ h2=>hb.block b (Nat.lt_of_lt_of_le h2 h.top)) (Nat.le_trans h.top hb.size),Nat.le_trans h.top hb.size,fun w2 h2 h3=>h.keep w2 (fun b h4 h5=>(h2 b h4 h5).trans (hb.block b (Nat.lt_of_lt_of_le h5 h.top))) h3⟩
theorem Dep.grown {w w':World} {lo hi:Nat} {F:World->Prop} {r:Option Nat} (h:Dep w lo hi F) (hg:w.grownBy w' r) (hr:∀ g,r=some g->g<lo\/hi<=g):Dep w' lo hi F:=by
 have key:∀ b,lo<=b->b<hi->w'.heap[b]?=w.heap[b]?:=fun b h1 h2=>hg.block b (Nat.lt_of_lt_of_le h2 h.top) (fun e=>by have:=hr b e.symm;omega)
 exact ⟨h.keep w' key (Nat.le_trans h.top hg.size),Nat.le_trans h.top hg.size,fun w2 h2 h3=>h.keep w2 (fun b h4 h5=>(h2 b h4 h5).trans (key b h4 h5)) h3⟩
theorem Dep.and {w:World} {lo hi:Nat} {F G:World->Prop} (h:Dep w lo hi F) (k:Dep w lo hi G):Dep w lo hi (fun w=>F w/\G w):=⟨⟨h.now,k.now⟩,h.top,fun w' h1 h2=>⟨h.keep w' h1 h2,k.keep w' h1 h2⟩⟩
theorem Dep.wide {w:World} {lo hi lo' hi':Nat} {F:World->Prop} (h:Dep w lo hi F) (h1:lo'<=lo) (h2:hi<=hi') (h3:hi'<=w.heap.size):Dep w lo' hi' F:=⟨h.now,h3,fun w' k1 k2=>h.keep w' (fun b a c=>k1 b (by omega) (by omega)) (by omega)⟩
theorem row_same {w w':World} {g:Nat} {cs:List Value} (h:Row w g cs) (e:w'.heap[g]?=w.heap[g]?) (hs:g<w'.heap.size):Row w' g cs :=
 ⟨hs,fun i v hv=>by rw [<-h.cell i v hv];simp [World.cell?,e],fun i hi=>by rw [<-h.froz i hi];simp [World.frozen?,e]⟩
theorem dep_row {w:World} {g lo hi:Nat} {cs:List Value} (h:Row w g cs) (h1:lo<=g) (h2:g<hi) (h3:hi<=w.heap.size):Dep w lo hi (fun w=>Row w g cs):=⟨h,h3,fun w' k1 k2=>row_same h (k1 g h1 h2) (by omega)⟩
theorem dep_own {w:World} {a:Option Addr} {lo n:Nat} {cs:List Value} (h:OwnS w a cs) (hn:cs≠[]->n≠0) (h1:∀ g,blk a n=some g->lo<=g):Dep w lo w.heap.size (fun w=>OwnS w a cs) :=
 ⟨h,Nat.le_refl _,fun w' k1 k2=>by
  by_cases h0:cs=[]
  ·exact .inl h0
  ·obtain ⟨g,rfl,hr⟩:=h.resolve_left h0
   exact .inr ⟨g,rfl,row_same hr (k1 g (h1 g (blk_pos _ _ _ (hn h0))) hr.lt) (Nat.lt_of_lt_of_le hr.lt k2)⟩⟩
theorem Dep.cut {w:World} {a:Option Addr} {lo hi:Nat} {cs:List Value} (h:Dep w lo w.heap.size (fun w=>OwnS w a cs)) (h1:∀ g,a=some ⟨g,0,none⟩->cs≠[]->g<hi) (h2:hi<=w.heap.size) (h3:∀ g,a=some ⟨g,0,none⟩->cs≠[]->lo<=g):Dep w lo hi (fun w=>OwnS w a cs) :=
 ⟨h.now,h2,fun w' k1 k2=>by
  by_cases h0:cs=[]
  ·exact .inl h0
  ·obtain ⟨g,rfl,hr⟩:=h.now.resolve_left h0
   exact .inr ⟨g,rfl,row_same hr (k1 g (h3 g rfl h0) (h1 g rfl h0)) (Nat.lt_of_lt_of_le (h1 g rfl h0) k2)⟩⟩
theorem blk_is {g n k:Nat} (h:blk (some ⟨g,0,none⟩) n=some k):k=g:=by
 unfold blk at h
 split at h
 ·cases h
 ·simp at h;exact h.symm
theorem Dep.low {w w':World} {lo hi N:Nat} {F:World->Prop} (h:Dep w lo hi F) (hb:Below N w w') (hN:hi<=N):Dep w' lo hi F :=
 ⟨h.keep w' (fun b _ h2=>hb.block b (by omega)) (Nat.le_trans h.top hb.size),Nat.le_trans h.top hb.size,fun w2 h2 h3=>h.keep w2 (fun b h4 h5=>(h2 b h4 h5).trans (hb.block b (by omega))) h3⟩
theorem dep_box (w:World) (A:Array Value) (t:TypeId):Dep (w.alloc (.cells A t)) w.heap.size (w.heap.size+1) (fun W=>Row W w.heap.size A.toList):=dep_row (row_new w A t) (Nat.le_refl _) (by omega) (by simp)
theorem bx1 {w v:World} {A:Array Value} {t:TypeId} (e:w.alloc (.cells A t)=v):Below w.heap.size w v/\v.heap.size=w.heap.size+1/\Dep v w.heap.size (w.heap.size+1) (fun W=>Row W w.heap.size A.toList):=by
 subst e
 exact ⟨(Below.refl _ _).alloc (Nat.le_refl _) _,by simp,dep_row (row_new w A t) (Nat.le_refl _) (by omega) (by simp)⟩
theorem dep_at {w:World} {g:Nat} {cs:List Value} (h:Row w g cs):Dep w g (g+1) (fun W=>Row W g cs):=dep_row h (Nat.le_refl _) (by omega) (by have:=h.lt;omega)
theorem c10 {w:World} {g:Nat} {a0 a1 a2 a3 a4 a5 a6 a7 a8 a9:Value} (h:Row w g [a0,a1,a2,a3,a4,a5,a6,a7,a8,a9]):w.cell? ⟨g,0,none⟩=some a0/\w.cell? ⟨g,1,none⟩=some a1/\w.cell? ⟨g,2,none⟩=some a2/\w.cell? ⟨g,3,none⟩=some a3/\w.cell? ⟨g,4,none⟩=some a4/\w.cell? ⟨g,5,none⟩=some a5/\w.cell? ⟨g,6,none⟩=some a6/\w.cell? ⟨g,7,none⟩=some a7/\w.cell? ⟨g,8,none⟩=some a8/\w.cell? ⟨g,9,none⟩=some a9/\g<w.heap.size :=
 ⟨h.cell 0 _ rfl,h.cell 1 _ rfl,h.cell 2 _ rfl,h.cell 3 _ rfl,h.cell 4 _ rfl,h.cell 5 _ rfl,h.cell 6 _ rfl,h.cell 7 _ rfl,h.cell 8 _ rfl,h.cell 9 _ rfl,h.lt⟩
theorem c12 {w:World} {g:Nat} {a0 a1 a2 a3 a4 a5 a6 a7 a8 a9 a10 a11:Value} (h:Row w g [a0,a1,a2,a3,a4,a5,a6,a7,a8,a9,a10,a11]):w.cell? ⟨g,0,none⟩=some a0/\w.cell? ⟨g,1,none⟩=some a1/\w.cell? ⟨g,2,none⟩=some a2/\w.cell? ⟨g,3,none⟩=some a3/\w.cell? ⟨g,4,none⟩=some a4/\w.cell? ⟨g,5,none⟩=some a5/\w.cell? ⟨g,6,none⟩=some a6/\w.cell? ⟨g,7,none⟩=some a7/\w.cell? ⟨g,8,none⟩=some a8/\w.cell? ⟨g,9,none⟩=some a9/\w.cell? ⟨g,10,none⟩=some a10/\w.cell? ⟨g,11,none⟩=some a11/\g<w.heap.size :=
 ⟨h.cell 0 _ rfl,h.cell 1 _ rfl,h.cell 2 _ rfl,h.cell 3 _ rfl,h.cell 4 _ rfl,h.cell 5 _ rfl,h.cell 6 _ rfl,h.cell 7 _ rfl,h.cell 8 _ rfl,h.cell 9 _ rfl,h.cell 10 _ rfl,h.cell 11 _ rfl,h.lt⟩
theorem c16 {w:World} {g:Nat} {a0 a1 a2 a3 a4 a5 a6 a7 a8 a9 a10 a11 a12 a13 a14 a15:Value} (h:Row w g [a0,a1,a2,a3,a4,a5,a6,a7,a8,a9,a10,a11,a12,a13,a14,a15]):w.cell? ⟨g,0,none⟩=some a0/\w.cell? ⟨g,1,none⟩=some a1/\w.cell? ⟨g,2,none⟩=some a2/\w.cell? ⟨g,3,none⟩=some a3/\w.cell? ⟨g,4,none⟩=some a4/\w.cell? ⟨g,5,none⟩=some a5/\w.cell? ⟨g,6,none⟩=some a6/\w.cell? ⟨g,7,none⟩=some a7/\w.cell? ⟨g,8,none⟩=some a8/\w.cell? ⟨g,9,none⟩=some a9/\w.cell? ⟨g,10,none⟩=some a10/\w.cell? ⟨g,11,none⟩=some a11/\w.cell? ⟨g,12,none⟩=some a12/\w.cell? ⟨g,13,none⟩=some a13/\w.cell? ⟨g,14,none⟩=some a14/\w.cell? ⟨g,15,none⟩=some a15/\g<w.heap.size :=
 ⟨h.cell 0 _ rfl,h.cell 1 _ rfl,h.cell 2 _ rfl,h.cell 3 _ rfl,h.cell 4 _ rfl,h.cell 5 _ rfl,h.cell 6 _ rfl,h.cell 7 _ rfl,h.cell 8 _ rfl,h.cell 9 _ rfl,h.cell 10 _ rfl,h.cell 11 _ rfl,h.cell 12 _ rfl,h.cell 13 _ rfl,h.cell 14 _ rfl,h.cell 15 _ rfl,h.lt⟩
def Pst (w:World) (a:Option Addr) (P:List (List (ByteArray×ByteArray))):Prop :=
 P=[]\/∃ b o,a=some ⟨b,o,none⟩/\b<w.heap.size/\∀ i,i<P.length->∃ p c,w.cell? ⟨b,o+i,none⟩=some (.slice p (P.getD i []).length c)/\Prs w p (P.getD i [])
theorem Pst.below {w w':World} {a:Option Addr} {P:List (List (ByteArray×ByteArray))} (h:Pst w a P) (hb:Below w.heap.size w w'):Pst w' a P:=by
 rcases h with h | ⟨b,o,h1,h2,h3⟩
 ·exact .inl h
 ·refine .inr ⟨b,o,h1,Nat.lt_of_lt_of_le h2 hb.size,fun i hi=>?_⟩
  obtain ⟨p,c,h4,h5⟩:=h3 i hi
  exact ⟨p,c,(hb.cell (p:=⟨b,o+i,none⟩) h2).trans h4,h5.below hb⟩
theorem Pst.at {w:World} {a:Option Addr} {P:List (List (ByteArray×ByteArray))} (h:Pst w a P) {k:Nat} (hk:k<P.length):∃ b o p c,a=some ⟨b,o,none⟩/\b<w.heap.size/\w.cell? ⟨b,o+k,none⟩=some (.slice p (P.getD k []).length c)/\Hid (Prs w p (P.getD k [])):=by
 rcases h with h | ⟨b,o,h1,h2,h3⟩
 ·subst h;simp at hk
 ·obtain ⟨p,c,h4,h5⟩:=h3 k hk
  exact ⟨b,o,p,c,h1,h2,h4,hid h5⟩
def stsz (rs:List (ByteArray×ByteArray)):List Nat:=rs.length::rs.flatMap prsz
def pcs (P:List (List (ByteArray×ByteArray))) (gs:Nat->Nat) (k:Nat):List Value:=(List.range P.length).map fun i=>if i<k then .slice (some ⟨gs i,0,none⟩) (P.getD i []).length (P.getD i []).length else .slice none 0 0
theorem pcs_length (P:List (List (ByteArray×ByteArray))) (gs:Nat->Nat) (k:Nat):(pcs P gs k).length=P.length:=by simp [pcs]
theorem pcs_set (P:List (List (ByteArray×ByteArray))) (gs:Nat->Nat) (k g:Nat) (h:k<P.length):(pcs P gs k).set k (.slice (some ⟨g,0,none⟩) (P.getD k []).length (P.getD k []).length)=pcs P (fun i=>if i=k then g else gs i) (k+1):=by
 apply List.ext_getElem
 ·simp [pcs]
 ·intro i h1 h2
  rw [List.getElem_set]
  by_cases e:k=i
  ·subst e
   simp [pcs]
  ·rw [if_neg e]
   simp only [pcs,List.getElem_map,List.getElem_range]
   by_cases h3:i<k
   ·rw [if_pos h3,if_pos (by omega),if_neg (fun x=>e x.symm)]
   ·rw [if_neg h3,if_neg (by omega)]
theorem made_pcs (P:List (List (ByteArray×ByteArray))) (gs:Nat->Nat):(madeCells (Value.agg #[.slice none 0 0]).cells (P.length*1)).toList=pcs P gs 0:=by
 unfold madeCells pcs
 rw [Array.toList_map,Array.toList_range,Nat.mul_one]
 refine List.map_congr_left fun i _=>?_
 rw [if_neg (by omega)]
 simp [Value.cells,Nat.mod_one]
structure OwnP (w:World) (g:Nat) (P:List (List (ByteArray×ByteArray))) (gs:Nat->Nat) (k:Nat):Prop where
 row:Row w g (pcs P gs k)
 st:∀ i,i<k->Row w (gs i) (prcells (P.getD i []))/\g<gs i
 asc:∀ i j,i<j->j<k->gs i<gs j
theorem OwnP.below {w w':World} {g k:Nat} {P:List (List (ByteArray×ByteArray))} {gs:Nat->Nat} (h:OwnP w g P gs k) (hb:Below w.heap.size w w'):OwnP w' g P gs k :=
 ⟨h.row.below hb,fun i hi=>⟨(h.st i hi).1.below hb,(h.st i hi).2⟩,h.asc⟩
theorem OwnP.push {w w':World} {g k g1:Nat} {P:List (List (ByteArray×ByteArray))} {gs:Nat->Nat} (h:OwnP w g P gs k) (hb:Below w.heap.size w w') (hg:w.heap.size<=g1) (hr:Row w' g1 (prcells (P.getD k []))) (hk:k<P.length) :
  OwnP (w'.setCell ⟨g,k,none⟩ (.slice (some ⟨g1,0,none⟩) (P.getD k []).length (P.getD k []).length)) g P (fun i=>if i=k then g1 else gs i) (k+1):=by
 have h':=h.below hb
 have hlt:=h.row.lt
 refine ⟨?_,fun i hi=>?_,fun i j hij hj=>?_⟩
 ·rw [<-pcs_set P gs k g1 hk]
  exact h'.row.set k (by rw [pcs_length];exact hk) _
 ·show Row _ (if i=k then g1 else gs i) _/\g<(if i=k then g1 else gs i)
  by_cases e:i=k
  ·subst e
   rw [if_pos rfl]
   exact ⟨hr.other _ (by show g≠g1;omega) _,by omega⟩
  ·rw [if_neg e]
   have:=h'.st i (by omega)
   exact ⟨this.1.other _ (by show g≠gs i;omega) _,this.2⟩
 ·show (if i=k then g1 else gs i)<(if j=k then g1 else gs j)
  rw [if_neg (by omega)]
  by_cases e:j=k
  ·rw [if_pos e]
   have:=(h.st i (by omega)).1.lt
   omega
  ·rw [if_neg e]
   exact h.asc i j hij (by omega)
theorem OwnP.pst {w:World} {g:Nat} {P:List (List (ByteArray×ByteArray))} {gs:Nat->Nat} (h:OwnP w g P gs P.length):Pst w (some ⟨g,0,none⟩) P :=
 .inr ⟨g,0,rfl,h.row.lt,fun i hi=>⟨_,_,by rw [Nat.zero_add];exact h.row.cell i (.slice (some ⟨gs i,0,none⟩) (P.getD i []).length (P.getD i []).length) (by simp [pcs,hi]),(h.st i hi).1.prs⟩⟩
set_option maxHeartbeats 16000000 in
theorem sz_past (a:Option Addr) (P:List (List (ByteArray×ByteArray))) (c:Nat) (left:Int) (w:World) (h:Pst w a P) (h0:0<=left) (h1:left<=1048576) (hl:P.length<=maxLen) (hs:∀ rs∈P,rs.length<=maxLen/\∀ s∈rs,s.1.size<=maxLen/\s.2.size<=maxLen) :
  Calls Tryz.prog 15 #[.slice a P.length c,.int .i64 left] w fun e w'=>e=.returned (.int .i64 (szL (P.length::P.flatMap stsz) left))/\Below w.heap.size w w':=by
 unfold maxLen at hl
 by_cases hn:left-(P.length:Int)<0
 ·have HR:=hid (szL_cons_lt (P.flatMap stsz) hn)
  go_enter Tryz.func15,Tryz.ntmps15
  go_wp2
  go_ret
  exact ⟨ret_int HR.out.symm,Below.refl _ _⟩
 ·have HR:=hid (szL_cons_ge (P.flatMap stsz) hn)
  obtain ⟨R,HE⟩:∃ R,Hid (R=szL (P.length::P.flatMap stsz) left):=⟨_,hid rfl⟩
  rw [<-HE.out]
  go_enter Tryz.func15,Tryz.ntmps15
  go_wp2
  go_loopw [1,5] (fun x i wr=>∃ (k:Nat) (y:Int),k<=P.length/\i=.int .i64 k/\x=.int .i64 y/\0<=y/\y<=1048576/\Hid (szL ((P.drop k).flatMap stsz) y=R)/\Below w.heap.size w wr) (fun _ i _=>P.length-(intOf i).toNat)
  case atStart=>exact ⟨0,_,Nat.zero_le _,rfl,rfl,by omega,by omega,by show _=_;rw [HE.out,HR.out,List.drop_zero],Below.refl _ _⟩
  case round =>
   obtain ⟨k,y,hk,rfl,rfl,hy0,hy1,HZ,hbel⟩:=hrel
   by_cases hlt:k<P.length
   ·obtain ⟨b,o,p,cp,rfl,hb0,hc0,HP⟩:=(h.below hbel).at hlt
    obtain ⟨rs,HRS⟩:∃ rs,Hid (rs=P.getD k []):=⟨_,hid rfl⟩
    rw [<-HRS.out] at hc0 HP
    have hmem:rs∈P:=by rw [HRS.out];simp [List.getD,hlt]
    have HSZ:=hid (sz_state p rs cp wr HP.out y hy0 hy1 (hs rs hmem).1 (hs rs hmem).2)
    unfold stV at HSZ
    obtain ⟨y',HY⟩:∃ y',Hid (y'=szL (rs.length::rs.flatMap prsz) y):=⟨_,hid rfl⟩
    have hbd:=szL_bd (rs.length::rs.flatMap prsz) y hy0
    rw [<-HY.out] at hbd HSZ
    have HD:Hid (szL ((P.drop k).flatMap stsz) y=szL (stsz rs++(P.drop (k+1)).flatMap stsz) y):=by
     show _=_
     rw [drop_at P k [] hlt,<-HRS.out]
     rfl
    by_cases hy:y'<0
    ·have hy2:y'=-1:=by omega
     have HN:=hid (szL_append_no (stsz rs) ((P.drop (k+1)).flatMap stsz) y hy0 (by show szL (rs.length::rs.flatMap prsz) y<0;rw [<-HY.out];exact hy))
     clear hbd
     subst hy2
     go_wp2_with (go_at_call 38;refine HSZ.out.mono ?_;rintro e w2 ⟨rfl,hb2⟩)
     go_ret
     refine ⟨ret_int ?_,hbel.trans (hb2.mono hbel.size)⟩
     rw [<-HZ.out,HD.out,HN.out]
    ·have hy2:0<=y':=by omega
     have hy3:y'<=1048576:=by omega
     have HN:=hid (szL_append_yes (stsz rs) ((P.drop (k+1)).flatMap stsz) y hy0 (by show 0<=szL (rs.length::rs.flatMap prsz) y;rw [<-HY.out];exact hy2))
     clear hbd
     go_wp2_with (go_at_call 38;refine HSZ.out.mono ?_;rintro e w2 ⟨rfl,hb2⟩)
     go_roundw
     case rel=>exact ⟨k+1,_,by omega,by go_num,rfl,by omega,by omega,by show _=_;rw [<-HZ.out,HD.out,HN.out,HY.out];rfl,hbel.trans (hb2.mono hbel.size)⟩
     case measure=>simp [intOf];omega
   ·go_wp2
    go_ret
    refine ⟨ret_int ?_,hbel⟩
    rw [<-HZ.out,List.drop_of_length_le (by omega)]
    rfl
theorem info_st:(Tryz.prog.info? 39).map (fun i=>(i.zero,i.size,i.bytes))=some (some (.agg #[.slice none 0 0]),1,24):=by kernel_rfl
set_option maxHeartbeats 16000000 in
theorem to_past (a:Option Addr) (P:List (List (ByteArray×ByteArray))) (c:Nat) (w:World) (h:Pst w a P) (hl:P.length<=1048576) (hs:∀ rs∈P,rs.length<=1048576) :
  Calls Tryz.prog 22 #[.slice a P.length c] w fun e w'=>∃ g gs,e=.returned (.slice (some ⟨g,0,none⟩) P.length P.length)/\w.heap.size<=g/\OwnP w' g P gs P.length/\Below w.heap.size w w':=by
 go_enter Tryz.func22,Tryz.ntmps22
 go_wp2_with (at_make;refine wpList_make_new rfl _ _ 48 rfl 39 _ 1 _ Tryz.underlying48 info_st P.length rfl rfl (by omega) (by omega) ?_;intro wx hrow hbx hsx;rw [made_pcs P (fun _=>0)] at hrow)
 have hr0:OwnP wx w.heap.size P (fun _=>0) 0:=⟨hrow,fun i hi=>absurd hi (by omega),fun i j _ hj=>absurd hj (by omega)⟩
 clear hrow
 go_loopw [4] (fun i wr=>∃ (k:Nat) (gs:Nat->Nat),k<=P.length/\i=.int .i64 k/\OwnP wr w.heap.size P gs k/\Below w.heap.size w wr) (fun i _=>P.length-(intOf i).toNat)
 case atStart=>exact ⟨0,_,Nat.zero_le _,rfl,hr0,hbx⟩
 case round =>
  obtain ⟨k,gs,hk,rfl,hrow,hbel⟩:=hrel
  by_cases hlt:k<P.length
  ·obtain ⟨b,o,p,cp,rfl,hb0,hc0,HP⟩:=(h.below hbel).at hlt
   obtain ⟨rs,HRS⟩:∃ rs,Hid (rs=P.getD k []):=⟨_,hid rfl⟩
   rw [<-HRS.out] at hc0 HP
   have hmem:rs∈P:=by rw [HRS.out];simp [List.getD,hlt]
   have HT:=hid (to_state p rs cp wr HP.out (hs rs hmem))
   unfold stV at HT
   have HB:=hid hbel
   have HR:=hid hrow
   clear hrow hbel
   go_wp2_with (go_at_call 56;refine HT.out.mono ?_;rintro e w2 ⟨g1,rfl,hg1,hr1,hb2⟩;have hu0:=(HR.out.row.below hb2).cell k _ (List.getElem?_eq_getElem (by rw [pcs_length];exact hlt));have hf0:=(HR.out.row.below hb2).froz k (by rw [pcs_length];exact hlt);have HR1:=hid hr1;clear hr1)
   have HPU:=hid (HR.out.push (k:=k) hb2 hg1 (by rw [<-HRS.out];exact HR1.out) hlt)
   rw [<-HRS.out] at HPU
   go_roundw
   case rel=>exact ⟨k+1,_,by omega,by go_num,HPU.out,(HB.out.trans (hb2.mono HB.out.size)).setCell (Nat.le_refl _) _⟩
   case measure=>simp [intOf];omega
  ·have hkn:k=P.length:=by omega
   subst hkn
   go_wp2
   go_ret
   exact ⟨w.heap.size,gs,rfl,Nat.le_refl _,hrow,hbel⟩
set_option maxHeartbeats 16000000 in
theorem eq_pst (p q:Option Addr) (P:List (List (ByteArray×ByteArray))) (c c':Nat) (w:World) (h:Pst w p P) (h':Pst w q P) (hl:P.length<=1048576) (hs:∀ rs∈P,rs.length<=1048576) :
  Calls Tryz.prog 29 #[.slice p P.length c,.slice q P.length c'] w fun e w'=>e=.returned (.bool true)/\Below w.heap.size w w':=by
 go_enter Tryz.func29,Tryz.ntmps29
 go_wp2
 go_loopw [5] (fun i wr=>∃ k:Nat,k<=P.length/\i=.int .i64 (k:Int)/\Below w.heap.size w wr) (fun i _=>P.length-(intOf i).toNat)
 case atStart=>exact ⟨0,Nat.zero_le _,rfl,Below.refl _ _⟩
 case round =>
  obtain ⟨k,hk,rfl,hbel⟩:=hrel
  by_cases hlt:k<P.length
  ·have hlt':(k:Int)<(P.length:Int):=by omega
   have hk0:(0:Int)<=(k:Int):=by omega
   obtain ⟨g,o,p1,c1,rfl,lg,hc,HP⟩:=(h.below hbel).at hlt
   obtain ⟨g',o',p2,c2,rfl,lg',hc',HP'⟩:=(h'.below hbel).at hlt
   obtain ⟨rs,HRS⟩:∃ rs,Hid (rs=P.getD k []):=⟨_,hid rfl⟩
   rw [<-HRS.out] at hc hc' HP HP'
   have hmem:rs∈P:=by rw [HRS.out];simp [List.getD,hlt]
   have HBL:=hid hbel
   have HE:=hid (eq_state p1 p2 rs c1 c2 wr.drew (HP.out.below (Below.refl _ _).drew) (HP'.out.below (Below.refl _ _).drew) (hs rs hmem))
   unfold stV at HE
   clear hbel
   go_wp2_with fail
   go_region_held3 (fun w'=>w'.cell? ⟨g,o+k,none⟩=some (.slice p1 rs.length c1)/\w'.cell? ⟨g',o'+k,none⟩=some (.slice p2 rs.length c2))
    (first | assumption | exact ⟨hc,hc'⟩ | exact ⟨(hb3.cell (p:=⟨g,o+k,none⟩) lg).trans hc,(hb3.cell (p:=⟨g',o'+k,none⟩) lg').trans hc'⟩)
    (first | (go_at_call 8;refine HE.out.mono ?_;rintro e w3 ⟨rfl,hb3⟩))
   have HB3:=hid (HBL.out.trans ((((Below.refl _ _).drew).trans hb3).mono HBL.out.size))
   clear hb3
   go_wp2
   exact ⟨⟨k+1,by omega,by go_num,HB3.out⟩,by simp [intOf];omega⟩
  ·go_wp2
   go_ret
   exact ⟨rfl,hbel⟩
theorem eqroot' (t h f l:Int) (w:World):Calls Tryz.prog 73 #[.agg #[.int .i64 t,.int .i64 h,.int .i64 f,.int .i64 l],.agg #[.int .i64 t,.int .i64 h,.int .i64 f,.int .i64 l]] w fun e w'=>e=.returned (.bool true)/\Below w.heap.size w w':=by
 go_enter Tryz.func73,Tryz.ntmps73
 go_wp2
 all_goals go_ret
 all_goals exact ⟨rfl,((Below.refl _ _).alloc (Nat.le_refl _) _).alloc (by simp) _⟩
set_option maxHeartbeats 16000000 in
theorem eq_store (W S L T H F R U O:Int) (a b:Option Addr) (rs:List (ByteArray×ByteArray)) (c d:Nat) (w:World) (h1:Prs w a rs) (h2:Prs w b rs) (hl:rs.length<=1048576) :
  Calls Tryz.prog 28 #[storeV W S L T H F R U O a rs.length c,storeV W S L T H F R U O b rs.length d] w fun e w'=>e=.returned (.bool true)/\Below w.heap.size w w':=by
 unfold storeV
 have hb0:∀ o1 o2,Below w.heap.size w ((w.alloc o1).alloc o2):=fun o1 o2=>((Below.refl _ _).alloc (Nat.le_refl _) _).alloc (by simp) _
 go_enter Tryz.func28,Tryz.ntmps28
 go_wp2_with (first | (go_at_call 73;refine (eqroot' T H F R _).mono ?_;rintro e w1 ⟨rfl,hb1⟩;have HB1:=hid ((hb0 _ _).trans (hb1.mono (by simp<;>omega)));have w1p7:w1.cell? ⟨w.heap.size,7,none⟩=some (.int .i64 U):=(hb1.cell (p:=⟨w.heap.size,7,none⟩) (by simp<;>omega)).trans (by go_simp);have w1p8:w1.cell? ⟨w.heap.size,8,none⟩=some (.int .i64 O):=(hb1.cell (p:=⟨w.heap.size,8,none⟩) (by simp<;>omega)).trans (by go_simp);have w1p9:w1.cell? ⟨w.heap.size,9,none⟩=some (.slice a rs.length c):=(hb1.cell (p:=⟨w.heap.size,9,none⟩) (by simp<;>omega)).trans (by go_simp);have w1q7:w1.cell? ⟨w.heap.size+1,7,none⟩=some (.int .i64 U):=(hb1.cell (p:=⟨w.heap.size+1,7,none⟩) (by simp<;>omega)).trans (by go_simp);have w1q8:w1.cell? ⟨w.heap.size+1,8,none⟩=some (.int .i64 O):=(hb1.cell (p:=⟨w.heap.size+1,8,none⟩) (by simp<;>omega)).trans (by go_simp);have w1q9:w1.cell? ⟨w.heap.size+1,9,none⟩=some (.slice b rs.length d):=(hb1.cell (p:=⟨w.heap.size+1,9,none⟩) (by simp<;>omega)).trans (by go_simp);clear hb1) | (go_at_call 8;refine (eq_state a b rs c d _ (h1.below HB1.out) (h2.below HB1.out) hl).mono ?_;rintro e w2 ⟨rfl,hb2⟩))
 go_ret
 exact ⟨rfl,HB1.out.trans (hb2.mono HB1.out.size)⟩
set_option maxHeartbeats 16000000 in
theorem held_prs (a:Option Addr) (n c k:Nat) (w:World) (h:OwnS w a (prcells (prmarks k n))) (hk:0<k) (hl:k+2*n<=100000000) :
  Calls Tryz.prog 36 #[.slice a n c,.int .i64 (k:Int)] w fun e w'=>e=.returned (.int .i64 ((k+2*n:Nat):Int))/\Below w.heap.size w w':=by
 rcases h with h | ⟨g,rfl,hrow⟩
 ·have hn:n=0:=by have:=congrArg List.length h;rw [prcells_length,prmarks_length,List.length_nil] at this;omega
  subst hn
  go_enter Tryz.func36,Tryz.ntmps36
  go_wp2
  refine wp_loop_rounds 1 ?_
  rw [rounds_succ]
  go_wp2
  go_ret
  exact ⟨rfl,Below.refl _ _⟩
 ·have HROW:=hid hrow
  clear hrow
  go_enter Tryz.func36,Tryz.ntmps36
  go_wp2
  go_loopw [1,5] (fun x i wr=>∃ j m:Nat,j<=n/\i=.int .i64 (j:Int)/\x=.int .i64 (m:Int)/\Hid (m=k+2*j)/\Below w.heap.size w wr) (fun _ i _=>n-(intOf i).toNat)
  case atStart=>exact ⟨0,k,Nat.zero_le _,rfl,rfl,hid rfl,Below.refl _ _⟩
  case round =>
   obtain ⟨j,m,hj,rfl,rfl,HM,hbel⟩:=hrel
   have HR:=hid (HROW.out.below hbel)
   have HB:=hid hbel
   clear hbel
   by_cases hlt:j<n
   ·have hmj:(m:Int)<=99999998:=by have:=HM.out;omega
    have hmj0:(0:Int)<(m:Int):=by have:=HM.out;omega
    have hj0:(0:Int)<=(j:Int):=by omega
    have hj1:(j:Int)<(n:Int):=by omega
    have hat:=prcells_at (prmarks k n) j (by rw [prmarks_length];exact hlt)
    have hgd:(prmarks k n).getD j (ByteArray.empty,ByteArray.empty)=prm m:=by rw [HM.out];simp [prmarks,List.getD,hlt]
    rw [hgd] at hat
    have HC:Hid (wr.cell? ⟨g,j*2,none⟩=some (.string (mtext m))/\wr.cell? ⟨g,j*2+1,none⟩=some (.string (mtext (m+1)))):=⟨HR.out.cell _ _ hat.1,HR.out.cell _ _ hat.2⟩
    have lt1:g<wr.heap.size:=HR.out.lt
    clear hat hgd
    go_wp2_with fail
    go_region_held3 (fun w'=>w'.cell? ⟨g,j*2,none⟩=some (.string (mtext m))/\w'.cell? ⟨g,j*2+1,none⟩=some (.string (mtext (m+1))))
     (first | assumption | exact HC.out | exact ⟨(hb2.cell (p:=⟨g,j*2,none⟩) lt1).trans HC.out.1,(hb2.cell (p:=⟨g,j*2+1,none⟩) lt1).trans HC.out.2⟩)
     (first | (go_at_call 75;refine (mark_text m _ (by omega) (by omega)).mono ?_;rintro e w2 ⟨rfl,hb2⟩))
    have HC2:Hid (w2.cell? ⟨g,j*2,none⟩=some (.string (mtext m))/\w2.cell? ⟨g,j*2+1,none⟩=some (.string (mtext (m+1)))):=⟨(hb2.cell (p:=⟨g,j*2,none⟩) lt1).trans HC.out.1,(hb2.cell (p:=⟨g,j*2+1,none⟩) lt1).trans HC.out.2⟩
    have lt2:g<w2.heap.size:=Nat.lt_of_lt_of_le lt1 hb2.size
    have HB2:=hid (HB.out.drew.trans (hb2.mono HB.out.size))
    clear hb2 lt1
    go_wp2_with fail
    go_region_held3 (fun w'=>w'.cell? ⟨g,j*2,none⟩=some (.string (mtext m))/\w'.cell? ⟨g,j*2+1,none⟩=some (.string (mtext (m+1))))
     (first | assumption | exact HC2.out | exact ⟨(hb3.cell (p:=⟨g,j*2,none⟩) lt2).trans HC2.out.1,(hb3.cell (p:=⟨g,j*2+1,none⟩) lt2).trans HC2.out.2⟩)
     (first | (go_at_call 75;refine (mark_text' ((m:Int)+1) (m+1) (by omega) _ (by omega) (by omega)).mono ?_;rintro e w3 ⟨rfl,hb3⟩))
    have HB3:=hid (HB2.out.drew.trans (hb3.mono HB2.out.size))
    clear hb3 lt2
    go_wp2
    exact ⟨⟨j+1,m+2,by omega,by go_num,by go_num,by show _=_;have:=HM.out;omega,HB3.out⟩,by simp [intOf];omega⟩
   ·have hjl:Hid (j=n):=by show _=_;omega
    go_wp2
    go_ret
    exact ⟨ret_int (by rw [HM.out,hjl.out]),HB.out⟩
set_option maxHeartbeats 16000000 in
theorem held_state (a:Option Addr) (n c k:Nat) (w:World) (h:OwnS w a (prcells (prmarks k n))) (hk:0<k) (hl:k+2*n<=100000000) :
  Calls Tryz.prog 12 #[stV a n c,.int .i64 (k:Int)] w fun e w'=>e=.returned (.int .i64 ((k+2*n:Nat):Int))/\Below w.heap.size w w':=by
 have hb0:∀ o,Below w.heap.size w (w.alloc o):=fun o=>(Below.refl _ _).alloc (Nat.le_refl _) _
 have hkn:¬ ((k+2*n:Nat):Int)<0:=by omega
 obtain ⟨m,HM⟩:∃ m,Hid (m=k+2*n):=⟨_,hid rfl⟩
 have HP:=hid (fun w' h'=>held_prs a n c k w' h' hk hl)
 rw [<-HM.out] at HP hkn ⊢
 go_enter Tryz.func12,Tryz.ntmps12
 go_wp2_with (go_at_call 36;refine (HP.out _ (h.below (hb0 _))).mono ?_;rintro e w1 ⟨rfl,hb1⟩)
 go_ret
 exact ⟨rfl,(hb0 _).trans (hb1.mono (by simp))⟩
set_option maxHeartbeats 16000000 in
theorem mark_store (W S L T H F R U O:Int) (a:Option Addr) (rs:List (ByteArray×ByteArray)) (c k:Nat) (w:World) (h:OwnS w a (prcells rs)) (hk:0<k) (hl:k+2*rs.length<=100000000) :
  Calls Tryz.prog 32 #[storeV W S L T H F R U O a rs.length c,.int .i64 (k:Int)] w fun e w'=>e=.returned (.int .i64 ((k+2*rs.length:Nat):Int))/\w.grownBy w' (blk a rs.length)/\OwnS w' a (prcells (prmarks k rs.length)):=by
 have hb0:∀ o,Below w.heap.size w (w.alloc o):=fun o=>(Below.refl _ _).alloc (Nat.le_refl _) _
 have HMS:=hid (fun w' h'=>mark_state a rs c k w' h' hk hl)
 obtain ⟨m,HM⟩:∃ m,Hid (m=k+2*rs.length):=⟨_,hid rfl⟩
 rw [<-HM.out] at HMS ⊢
 unfold storeV
 go_enter Tryz.func32,Tryz.ntmps32
 go_wp2_with (go_at_call 11;refine (HMS.out _ (h.below (hb0 _))).mono ?_;rintro e w1 ⟨rfl,hg1,ho1⟩;have HG:=hid (grown_trans (grown_of_below (blk a rs.length) (hb0 _)) hg1);have HO:=hid ho1;clear hg1 ho1)
 go_ret
 exact ⟨rfl,HG.out,HO.out⟩
end Go.Proofs.YtcoegjnjjdndjaaGreatDoor
