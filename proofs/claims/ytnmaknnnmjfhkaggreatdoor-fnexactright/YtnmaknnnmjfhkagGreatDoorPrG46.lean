import Derived.Test.YtnmaknnnmjfhkagGreatDoorPrG34
import Derived.Test.YtnmaknnnmjfhkagGreatDoorPrG45
import Derived.Test.YtnmaknnnmjfhkagGreatDoorPrG35
import Derived.Shelf.Spec.SlicesInsert
import Derived.Lib.AppendZerosOnto
import Derived.Lib.Overlaps
import Derived.Laws.Externs
import Derived.Laws.CopyRow
import Derived.Laws.CopyOwn
set_option maxHeartbeats 16000000
set_option maxRecDepth 8000
set_option linter.unusedVariables false
set_option linter.unusedSimpArgs false
namespace Go.Proofs.YtnmaknnnmjfhkagGreatDoor
open Go.RowKit
def ApPost (w w':World) (e:Ending) (rs:List Pr) (code:Int):Prop:=∃ a c,e=.returned (.tuple #[stV a rs.length c,.int .i64 code])/\rs.length<=c/\OwnS w' a (prcells rs)/\(∀ g,blk a rs.length=some g->w.heap.size<=g)/\Below w.heap.size w w'
theorem ap_no {w w':World} {e:Ending} {a:Option Addr} {c:Nat} {code:Int} (he:e=.returned (.tuple #[stV a 0 c,.int .i64 code])) (hb:Below w.heap.size w w'):ApPost w w' e [] code:=⟨a,c,he,Nat.zero_le _,.inl rfl,fun g h=>(by cases h),hb⟩
theorem OwnS.setA {w:World} {a:Option Addr} {cs:List Value} (h:OwnS w a cs) (p:Addr) (hp:∀ g,a=some ⟨g,0,none⟩->cs≠[]->p.block≠g) (v:Value):OwnS (w.setCell p v) a cs:=by
 by_cases h0:cs=[]
 ·exact .inl h0
 ·obtain ⟨g,rfl,hr⟩:=h.resolve_left h0
  exact .inr ⟨g,rfl,hr.other p (hp g rfl h0) v⟩
theorem OwnS.prsA {w:World} {a:Option Addr} {rs:List Pr} (h:OwnS w a (prcells rs)):Prs w a rs:=by
 rcases h with h | ⟨g,rfl,h⟩
 ·exact .inl (by have:=congrArg List.length h;rw [prcells_length,List.length_nil] at this;exact List.eq_nil_of_length_eq_zero (by omega))
 ·exact h.prs
theorem prcells_neA {rs:List Pr} (h:prcells rs≠[]):rs.length≠0:=fun e=>h (by rw [List.eq_nil_of_length_eq_zero e];rfl)
set_option maxHeartbeats 16000000 in
theorem apply_s (a:Option Addr) (rs:List Pr) (c:Nat) (a2:Option Addr) (b:List Ch) (c2:Nat) (w:World) (h:Prs w a rs) (hl:rs.length<=1048576) (hs:∀ x∈rs,x.1.size<=1048576/\x.2.size<=1048576) (h2:Chs w a2 b) (hl2:b.length<=1048576) (hs2:∀ x∈b,x.1.size<=1048576/\x.2.1.size<=1048576) :
  Calls Tryz.prog 101 #[stV a rs.length c,.slice a2 b.length c2] w fun e w'=>ApPost w w' e (apR rs b) (apC rs b):=by
 have hb0:∀ o1 o2,Below w.heap.size w ((w.alloc o1).alloc o2):=fun o1 o2=>((Below.refl _ _).alloc (Nat.le_refl _) _).alloc (by simp) _
 have HVS:=hid (fun w' h'=>vstate_s a rs c w' h' hl hs)
 have HVB:=hid (fun w' h'=>vbatch_s a2 b c2 w' h' hl2 hs2)
 unfold stV
 unfold apR apC
 cases hok:stateOk rs with
 | false =>
  rw [hok] at HVS
  simp only [Bool.false_and,Bool.false_eq_true,if_false]
  rw [if_neg (by omega)]
  go_enter Tryz.func101,Tryz.ntmps101
  go_wp2_with (go_at_call 85;refine (HVS.out _ (h.below (hb0 _ _))).mono ?_;rintro e w3 ⟨rfl,hb3⟩;have q1:w3.cell? ⟨w.heap.size+1,0,none⟩=some (.slice none 0 0):=(hb3.cell (p:=⟨w.heap.size+1,0,none⟩) (by simp)).trans (by go_simp);have f1:w3.frozen? ⟨w.heap.size+1,0,none⟩=false:=(hb3.frozen (p:=⟨w.heap.size+1,0,none⟩) (by simp)).trans (by go_simp);have l1:w.heap.size+1<w3.heap.size:=Nat.lt_of_lt_of_le (by simp) hb3.size)
  refine bodyPost_ret (v:=.tuple #[stV none 0 0,.int .i64 1]) (by simp [results,Tryz.results101,go_sem,stV,q1]) rfl (ap_no rfl ?_)
  exact ((hb0 _ _).trans (hb3.mono (by simp;omega))).setCell (p:=⟨w.heap.size+1,0,none⟩) (by show w.heap.size<=w.heap.size+1;omega) _
 | true =>
  rw [hok] at HVS
  simp only [Bool.true_and]
  cases hokb:batchOk b with
  | false =>
   rw [hokb] at HVB
   simp only [Bool.false_eq_true,if_false]
   rw [if_neg (by omega)]
   go_enter Tryz.func101,Tryz.ntmps101
   go_wp2_with (first | (go_at_call 85;refine (HVS.out _ (h.below (hb0 _ _))).mono ?_;rintro e w3 ⟨rfl,hb3⟩;have HB3:=hid hb3;clear hb3) | (go_at_call 100;refine (HVB.out _ (h2.below ((hb0 _ _).trans (HB3.out.mono (by simp;omega))))).mono ?_;rintro e w4 ⟨rfl,hb4⟩;have hb3:=HB3.out;have hb34:=hb3.trans (hb4.mono hb3.size);have q1:w4.cell? ⟨w.heap.size+1,0,none⟩=some (.slice none 0 0):=(hb34.cell (p:=⟨w.heap.size+1,0,none⟩) (by simp)).trans (by go_simp);have f1:w4.frozen? ⟨w.heap.size+1,0,none⟩=false:=(hb34.frozen (p:=⟨w.heap.size+1,0,none⟩) (by simp)).trans (by go_simp);have l1:w.heap.size+1<w4.heap.size:=Nat.lt_of_lt_of_le (by simp) hb34.size))
   refine bodyPost_ret (v:=.tuple #[stV none 0 0,.int .i64 1]) (by simp [results,Tryz.results101,go_sem,stV,q1]) rfl (ap_no rfl ?_)
   exact ((hb0 _ _).trans (hb34.mono (by simp;omega))).setCell (p:=⟨w.heap.size+1,0,none⟩) (by show w.heap.size<=w.heap.size+1;omega) _
  | true =>
   rw [hokb] at HVB
   simp only [if_true]
   have hle:rs.length<=100:=(stateOk_of hok).1
   have hle2:b.length<=20:=(batchOk_of hokb).1.2
   have HCP:=hid (fun w' h'=>copy_st_s a rs c w' h' hl)
   unfold CpPost stV at HCP
   have HLN:=hid (apU_len rs b)
   go_enter Tryz.func101,Tryz.ntmps101
   go_wp2_with (first | (go_at_call 85;refine (HVS.out _ (h.below (hb0 _ _))).mono ?_;rintro e w3 ⟨rfl,hb3⟩;have HB3:=hid hb3;clear hb3) | (go_at_call 100;refine (HVB.out _ (h2.below ((hb0 _ _).trans (HB3.out.mono (by simp;omega))))).mono ?_;rintro e w4 ⟨rfl,hb4⟩;have HB4:=hid (HB3.out.trans (hb4.mono HB3.out.size));clear hb4;have q0:w4.cell? ⟨w.heap.size,0,none⟩=some (.slice a rs.length c):=(HB4.out.cell (p:=⟨w.heap.size,0,none⟩) (by simp;omega)).trans (by go_simp)) | (go_at_call 104;refine (HCP.out _ (h.below ((hb0 _ _).trans (HB4.out.mono (by simp;omega))))).mono ?_;rintro e w5 ⟨a5,c5,rfl,hc5,ho5,hg5,hb5⟩;have HB5:=hid (HB4.out.trans (hb5.mono HB4.out.size));have HO5:=hid ho5;have hc5':=hc5;have HG5:=hid hg5;have HW45:=hid hb5.size;clear ho5 hg5 hb5))
   have hs4:w.heap.size+1<w4.heap.size:=by have:=HB4.out.size;simp at this;omega
   have hs5:w4.heap.size<=w5.heap.size:=HW45.out
   have HBW:Hid (Below w.heap.size w w5):=(hb0 _ _).trans (HB5.out.mono (by simp;omega))
   have HQ1:Hid (∀ w',Below w5.heap.size w5 w'->Row w' (w.heap.size+1) [.slice none 0 0]):=fun w' hb=>((row_atA (w:=w.alloc (.cells #[.slice a rs.length c] 31)) (A:=#[.slice none 0 0]) (t:=31) (g:=w.heap.size+1) (by simp)).below HB5.out).below hb
   go_loopw [7] (fun i wr=>∃ k:Nat,k<=b.length/\i=.int .i64 (k:Int)/\∃ va vc,Row wr w5.heap.size [.slice va (apU rs (b.take k)).length vc]/\(apU rs (b.take k)).length<=vc/\OwnS wr va (prcells (apU rs (b.take k)))/\(∀ g,blk va (apU rs (b.take k)).length=some g->w.heap.size+1<g/\g≠w5.heap.size)/\Below w5.heap.size w5 wr) (fun i _=>b.length-(intOf i).toNat)
   case atStart=>exact ⟨0,Nat.zero_le _,rfl,a5,c5,row_new w5 _ _,hc5',HO5.out.below ((Below.refl _ _).alloc (Nat.le_refl _) _),fun g hg=>by have h1:=HG5.out g hg;have h2:=HO5.out.lt rs.length (fun h e=>h (by have:=congrArg List.length e;rw [prcells_length,List.length_nil] at this;omega)) g hg;omega,(Below.refl _ _).alloc (Nat.le_refl _) _⟩
   case round =>
    obtain ⟨k,hk,rfl,va,vc,hrw,hcv,how,hbk,hbl⟩:=hrel
    have hN:=HLN.out k
    have hq6:=hrw.cell 0 _ rfl
    have hf6:=hrw.froz 0 (by simp)
    have hl6:=hrw.lt
    have hsr:=hbl.size
    have HRW:=hid hrw
    have HOW:=hid how
    have HBK:=hid hbk
    have HBL:=hid hbl
    clear hrw how hbk hbl
    by_cases hlt:k<b.length
    ·obtain ⟨bb,oo,s0,s1,g0,rfl,hc0,hc1,hc2,HS⟩:=(h2.below (HBW.out.trans (HBL.out.mono HBW.out.size))).at hlt
     have hlbb:bb<w.heap.size:=by
      rcases h2 with h | ⟨b',o',h1,h2,_⟩
      ·subst h;simp at hlt
      ·cases h1;exact h2
     have hlt':(k:Int)<(b.length:Int):=by omega
     have hk0:(0:Int)<=(k:Int):=by omega
     have hst:apU rs (b.take (k+1))=chF (s0,s1,g0) (apU rs (b.take k)):=by rw [takeA_snoc b k (ByteArray.empty,ByteArray.empty,false) hlt,apU_snoc,<-HS.out]
     have HST:=hid hst
     have HCH:=hid (fun W (hW:Prs W va (apU rs (b.take k)))=>change_s va (apU rs (b.take k)) vc s0 s1 g0 W hW (by omega))
     obtain ⟨cur,hcur⟩:∃ cur,cur=apU rs (b.take k):=⟨_,rfl⟩
     rw [<-hcur] at HST HCH HRW HOW HBK hq6 hN hcv
     clear hst hcur HS
     unfold stV CpPost at HCH
     have HT:Hid (∀ w',Below w.heap.size wr w'->w'.cell? ⟨bb,oo+k*3,none⟩=some (.string s0)/\w'.cell? ⟨bb,oo+k*3+1,none⟩=some (.string s1)/\w'.cell? ⟨bb,oo+k*3+2,none⟩=some (.bool g0)):=fun w' hb=>⟨(hb.cell (p:=⟨bb,oo+k*3,none⟩) hlbb).trans hc0,(hb.cell (p:=⟨bb,oo+k*3+1,none⟩) hlbb).trans hc1,(hb.cell (p:=⟨bb,oo+k*3+2,none⟩) hlbb).trans hc2⟩
     have hww:w.heap.size<=wr.heap.size:=by omega
     go_wp2_with fail
     refine wp_region_held_drew (S:=fun w'=>w'.cell? ⟨bb,oo+k*3,none⟩=some (.string s0)/\w'.cell? ⟨bb,oo+k*3+1,none⟩=some (.string s1)/\w'.cell? ⟨bb,oo+k*3+2,none⟩=some (.bool g0)) (by kernel_rfl) (HT.out _ (Below.refl _ _).drew) (fun hHeld=>?_)
     refine TY (i:=1) (v:=.slice (some ⟨bb,oo,none⟩) b.length c2) rfl hHeld ?_
     simp only [PS]
     refine TY (i:=2) (v:=.int .i64 (k:Int)) rfl hHeld ?_
     simp only [PS]
     refine TY (i:=3) (v:=.pointer (some ⟨bb,oo+k*3,none⟩)) rfl hHeld ?_
     simp only [PS]
     refine TY (i:=4) (v:=.agg #[.string s0,.string s1,.bool g0]) rfl hHeld ?_
     simp only [PS]
     refine RD (i:=0) rfl (fun K hK=>?_)
     go_simp
     refine hK.out _ _ hHeld (fun _=>?_)
     clear hK K
     try simp only [PS]
     refine RD (i:=5) rfl (fun K hK=>?_)
     refine step_call (by rfl) 190 #[.agg #[.slice va cur.length vc],.agg #[.string s0,.string s1,.bool g0]] (by go_simp) (HCH.out _ ((HOW.out.below (Below.refl _ _).drew).prsA)) ?_
     rintro e w7 ⟨a7,c7,rfl,hc7,ho7,hg7,hb7⟩
     refine ⟨_,rfl,?_⟩
     have hb7':Below wr.heap.size wr w7:=(Below.refl _ _).drew.trans hb7
     have hr7:=HRW.out.below hb7'
     have q7:=hr7.cell 0 _ rfl
     have f7:=hr7.froz 0 (by simp)
     have l7:=hr7.lt
     refine hK.out _ _ (HT.out _ (hb7'.mono hww)) (fun hHd2=>?_)
     clear hK K
     try simp only [PS]
     refine RD (i:=6) rfl (fun K hK=>?_)
     go_simp
     refine hK.out _ _ (HT.out _ ((hb7'.mono hww).setCell (p:=⟨w5.heap.size,0,none⟩) (by show w.heap.size<=w5.heap.size;omega) _)) (fun hHd3=>?_)
     clear hK K
     try simp only [PS]
     refine wpAnyH_done (by kernel_rfl) ?_ _
     go_wp2
     refine ⟨⟨k+1,by omega,by go_num,a7,c7,?_,?_,?_,?_,?_⟩,by simp [intOf];omega⟩
     ·rw [HST.out];exact hr7.set 0 (by simp) _
     ·rw [HST.out];exact hc7
     ·rw [HST.out];exact ho7.setA _ (fun g hg hne=>by have:wr.heap.size<=g:=hg7 g (by subst hg;exact blk_pos _ _ _ (prcells_neA hne));show w5.heap.size≠g;omega) _
     ·rw [HST.out];exact fun g hg=>by have:wr.heap.size<=g:=hg7 g hg;omega
     ·exact (HBL.out.trans (hb7'.mono hsr)).setCell (p:=⟨w5.heap.size,0,none⟩) (Nat.le_refl _) _
    ·have hkl:k=b.length:=by omega
     subst hkl
     have hr1:=HQ1.out _ HBL.out
     have q1:=hr1.cell 0 _ rfl
     have f1:=hr1.froz 0 (by simp)
     have l1:=hr1.lt
     have hBn:w.heap.size+1≠w5.heap.size:=by omega
     have hBn2:¬ w5.heap.size=w.heap.size+1:=by omega
     rw [List.take_length] at hq6 hcv HRW HOW HBK
     clear hr1 hN
     by_cases h100:(apU rs b).length<=100
     ·have HIF:=hid h100
      have h100':((apU rs b).length:Int)<=100:=by omega
      clear h100
      go_wp2_with fail
      refine bodyPost_ret (v:=.tuple #[stV va (apU rs b).length vc,.int .i64 0]) (by simp [results,Tryz.results101,go_sem,stV,q1]) rfl ⟨va,vc,rfl,hcv,?_,fun g hg=>by have:=(HBK.out g hg).1;omega,?_⟩
      ·exact HOW.out.setA _ (fun g hg hne=>by have:=(HBK.out g (by subst hg;exact blk_pos _ _ _ (prcells_neA hne))).1;show w.heap.size+1≠g;omega) _
      ·exact (HBW.out.trans (HBL.out.mono HBW.out.size)).setCell (p:=⟨w.heap.size+1,0,none⟩) (by show w.heap.size<=w.heap.size+1;omega) _
     ·have HIF:=hid h100
      have h100':¬ ((apU rs b).length:Int)<=100:=by omega
      clear h100
      go_wp2_with fail
      refine bodyPost_ret (v:=.tuple #[stV none 0 0,.int .i64 2]) (by simp [results,Tryz.results101,go_sem,stV,q1]) rfl (ap_no rfl ?_)
      exact (HBW.out.trans (HBL.out.mono HBW.out.size)).setCell (p:=⟨w.heap.size+1,0,none⟩) (by show w.heap.size<=w.heap.size+1;omega) _
end Go.Proofs.YtnmaknnnmjfhkagGreatDoor
namespace Go.Proofs.YtnmaknnnmjfhkagGreatDoor
open Go.RowKit Go.Lib
theorem run_copy_k {P:Program} (w:World) (dT sT ty elem:TypeId) (k g o dLen dCap:Nat) (a:Addr) (sLen sCap:Nat) (cur:Array Value) (t:TypeId) (cs:List Value) (n:Nat)
  (hu:P.underlying dT=some (.slice elem)) (hs:(P.info? elem).map (·.size)=some k)
  (hg:w.heap[g]?=some (.cells cur t (0,0))) (hn:Nat.min sLen dLen=n) (hc:cs.length=n*k)
  (hsrc:∀ j v,cs[j]?=some v->w.cell? (a.add j)=some v) (hfit:o+cs.length<=cur.size) (h1:∀ v∈cs,v.oneCell'=true) :
  (Builtin.copy_ #[dT,sT] ty #[.slice (some ⟨g,o,none⟩) dLen dCap,.slice (some a) sLen sCap]).run P w =
   .ok (goInt n) (w.setRow g (cur.toList.take o++cs++cur.toList.drop (o+cs.length)).toArray):=by
 have hl:=run_loadCells_list (P:=P) w a cs hsrc
 have hst:=run_storeCells_at P g o t cs 0 cur w hg (by simpa using hfit) h1
 cases hq:P.info? elem with
 | none=>simp [hq] at hs
 | some i =>
  have hi:i.size=k:=by simpa [hq] using hs
  simp only [Nat.add_zero] at hst
  rw [hc] at hl
  simp [Builtin.copy_,run_underlying hu,Builtin.lenOf,Builtin.firstCells,sizeOf,typeInfo,hq,hi,hn,hl,hst]
theorem run_append_in {P:Program} (w:World) (t ty e:TypeId) (k g sLen sCap:Nat) (a:Addr) (n c:Nat) (cur:Array Value) (tt:TypeId) (cs:List Value)
  (ht:P.underlying t=some (.slice e)) (hs:(P.info? e).map (·.size)=some k)
  (hg:w.heap[g]?=some (.cells cur tt (0,0))) (hroom:sLen+n<=sCap) (hc:cs.length=n*k)
  (hsrc:∀ j v,cs[j]?=some v->w.cell? (a.add j)=some v) (hfit:sLen*k+cs.length<=cur.size) (h1:∀ v∈cs,v.oneCell'=true) :
  (Builtin.append_ #[t,t] ty #[.slice (some ⟨g,0,none⟩) sLen sCap,.slice (some a) n c]).run P w =
   .ok (.slice (some ⟨g,0,none⟩) (sLen+n) sCap) (w.setRow g (cur.toList.take (sLen*k)++cs++cur.toList.drop (sLen*k+cs.length)).toArray):=by
 have hl:=run_loadCells_list (P:=P) w a cs hsrc
 have hst:=run_storeCells_at P g (sLen*k) tt cs 0 cur w hg (by simpa using hfit) h1
 have hadd:(⟨g,0,none⟩:Addr).add (sLen*k)=⟨g,sLen*k,none⟩:=by rw [Addr.add_lit];simp
 cases hq:P.info? e with
 | none=>simp [hq] at hs
 | some i =>
  have hi:i.size=k:=by simpa [hq] using hs
  simp only [Nat.add_zero] at hst
  rw [hc] at hl
  simp [Builtin.append_,run_underlying ht,Builtin.lenOf,Builtin.firstCells,sizeOf,typeInfo,hq,hi,hl,hst,hroom,hadd]
theorem run_clear_k {P:Program} (w:World) (t ty e:TypeId) (z:Value) (ht:P.underlying t=some (.slice e)) (hv:∀ w,(zeroValue e).run P w=.ok z w) (g o n c:Nat) (hn:0<n) (cur:Array Value) (tt:TypeId) (cs:List Value)
  (hg:w.heap[g]?=some (.cells cur tt (0,0))) (hcs:(Builtin.zeroCells z.cells n).toList=cs) (hfit:o+cs.length<=cur.size) (h1:∀ v∈cs,v.oneCell'=true) :
  (Builtin.clear_ #[t] ty #[.slice (some ⟨g,o,none⟩) n c]).run P w=.ok (.tuple #[]) (w.setRow g (cur.toList.take o++cs++cur.toList.drop (o+cs.length)).toArray):=by
 have hst:=run_storeCells_at P g o tt cs 0 cur w hg (by simpa using hfit) h1
 simp only [Nat.add_zero] at hst
 obtain ⟨m,rfl⟩:∃ m,n=m+1:=⟨n-1,by omega⟩
 simp [Builtin.clear_,run_underlying ht,hv,hcs,hst]
theorem setRow_grown (w:World) (g:Nat) (cs:Array Value):w.grownBy (w.setRow g cs) (some g):=⟨rfl,rfl,rfl,by simp [World.setRow],fun k _ hk=>setRow_other w g k cs (fun e=>hk (by rw [e]))⟩
theorem grown_trans' {w w1 w2:World} {r:Option Nat} (h:w.grownBy w1 r) (k:w1.grownBy w2 r):w.grownBy w2 r :=
 ⟨k.os.trans h.os,k.tape.trans h.tape,k.output.trans h.output,Nat.le_trans h.size k.size,fun j hj hne=>(k.block j (Nat.lt_of_lt_of_le hj h.size) hne).trans (h.block j hj hne)⟩
theorem cell_of_row {w:World} {g:Nat} {cur:List Value} {t:TypeId} {fr:Nat×Nat} (h:w.heap[g]?=some (.cells cur.toArray t fr)) {j:Nat} {v:Value} (hv:cur[j]?=some v):w.cell? ⟨g,j,none⟩=some v:=by
 simp [World.cell?,h,hv]
theorem step_append_run {P:Program} {ops:Array Oper} {o:Oper} {a:Act} {w:World} {K:Act->World->Prop} {Q:Exit->Act->World->Prop} {E:Prop}
  (hg:o.guard=none) (d x:Operand) (dT sT:TypeId) (hop:o.op=Op.call { callee:=Callee.builtin Builtin.append,args:=#[d,x],argTypes:=#[dT,sT] })
  (v u:Value) (hd:a.eval d=v) (hx:a.eval x=u) {v':Value} {w':World} (hr:(Builtin.append_ #[dT,sT] o.type #[v,u]).run P w=.ok v' w') (hK:K (a.put o.dst v') w') :
  if Region.wanted o (yielded ops a.tmps)=true then Oper.wp P o a w K Q else E:=by
 have hw:Region.wanted o (yielded ops a.tmps)=true:=by simp [Region.wanted,hg]
 rw [if_pos hw]
 unfold Oper.wp
 simp [execOp,hop,resolve,invoke,builtin,hd,hx,hr,Result.andThen]
 exact hK
end Go.Proofs.YtnmaknnnmjfhkagGreatDoor
