import Derived.Test.YthdilmkbnpmdaaaPrG52
set_option maxHeartbeats 16000000
set_option maxRecDepth 8000
set_option linter.unusedVariables false
set_option linter.unusedSimpArgs false
namespace Go.Proofs.Ythdilmkbnpmdaaa
open Go.RowKit
def ApPost (w w':World) (e:Ending) (rs:List Pr) (code:Int):Prop:=∃ a c,e=.returned (.tuple #[stV a rs.length c,.int .i64 code])/\rs.length<=c/\OwnS w' a (prcells rs)/\(∀ g,blk a rs.length=some g->w.heap.size<=g)/\Below w.heap.size w w'
theorem ap_no {w w':World} {e:Ending} {a:Option Addr} {c:Nat} {code:Int} (he:e=.returned (.tuple #[stV a 0 c,.int .i64 code])) (hb:Below w.heap.size w w'):ApPost w w' e [] code:=⟨a,c,he,Nat.zero_le _,.inl rfl,fun g h=>(by cases h),hb⟩
theorem OwnS.setA {w:World} {a:Option Addr} {cs:List Value} (h:OwnS w a cs) (p:Addr) (hp:∀ g,a=some ⟨g,0,none⟩->cs≠[]->p.block≠g) (v:Value):OwnS (w.setCell p v) a cs:=by
 by_cases h0:cs=[]
 ·exact .inl h0
 ·obtain ⟨g,rfl,hr⟩:=h.resolve_left h0
  exact .inr ⟨g,rfl,hr.other p (hp g rfl h0) v⟩
theorem OwnS.prsA {w:World} {a:Option Addr} {rs:List Pr} (h:OwnS w a (prcells rs)):Prs w a rs:=by
 rcases h with h | ⟨g,rfl,h⟩
 ·exact .inl (by have:=congrArg List.length h;rw [prcells_length,List.length_nil] at this;exact List.eq_nil_of_length_eq_zero (by omega))
 ·exact h.prs
theorem prcells_neA {rs:List Pr} (h:prcells rs≠[]):rs.length≠0:=fun e=>h (by rw [List.eq_nil_of_length_eq_zero e];rfl)
theorem apply_s (a:Option Addr) (rs:List Pr) (c:Nat) (a2:Option Addr) (b:List Ch) (c2:Nat) (w:World) (h:Prs w a rs) (hl:rs.length<=1048576) (hs:∀ x∈rs,x.1.size<=1048576/\x.2.size<=1048576) (h2:Chs w a2 b) (hl2:b.length<=1048576) (hs2:∀ x∈b,x.1.size<=1048576/\x.2.1.size<=1048576) :
  Calls Try.prog 53 #[stV a rs.length c,.slice a2 b.length c2] w fun e w'=>ApPost w w' e (apR rs b) (apC rs b):=by
 have hb0:∀ o1 o2,Below w.heap.size w ((w.alloc o1).alloc o2):=fun o1 o2=>((Below.refl _ _).alloc (Nat.le_refl _) _).alloc (by simp) _
 have HVS:=hid (fun w' h'=>vstate_s a rs c w' h' hl hs)
 have HVB:=hid (fun w' h'=>vbatch_s a2 b c2 w' h' hl2 hs2)
 unfold stV
 unfold apR apC
 cases hok:stateOk rs with
 | false =>
  rw [hok] at HVS
  simp only [Bool.false_and,Bool.false_eq_true,if_false]
  rw [if_neg (by omega)]
  go_enter Try.func53,Try.ntmps53
  go_wp2_with (go_at_call 68;refine (HVS.out _ (h.below (hb0 _ _))).mono ?_;rintro e w3 ⟨rfl,hb3⟩;have q1:w3.cell? ⟨w.heap.size+1,0,none⟩=some (.slice none 0 0):=(hb3.cell (p:=⟨w.heap.size+1,0,none⟩) (by simp)).trans (by go_simp);have f1:w3.frozen? ⟨w.heap.size+1,0,none⟩=false:=(hb3.frozen (p:=⟨w.heap.size+1,0,none⟩) (by simp)).trans (by go_simp);have l1:w.heap.size+1<w3.heap.size:=Nat.lt_of_lt_of_le (by simp) hb3.size)
  refine bodyPost_ret (v:=.tuple #[stV none 0 0,.int .i64 1]) (by simp [results,Try.results53,go_sem,stV,q1]) rfl (ap_no rfl ?_)
  exact ((hb0 _ _).trans (hb3.mono (by simp;omega))).setCell (p:=⟨w.heap.size+1,0,none⟩) (by show w.heap.size<=w.heap.size+1;omega) _
 | true =>
  rw [hok] at HVS
  simp only [Bool.true_and]
  cases hokb:batchOk b with
  | false =>
   rw [hokb] at HVB
   simp only [Bool.false_eq_true,if_false]
   rw [if_neg (by omega)]
   go_enter Try.func53,Try.ntmps53
   go_wp2_with (first | (go_at_call 68;refine (HVS.out _ (h.below (hb0 _ _))).mono ?_;rintro e w3 ⟨rfl,hb3⟩;have HB3:=hid hb3;clear hb3) | (go_at_call 52;refine (HVB.out _ (h2.below ((hb0 _ _).trans (HB3.out.mono (by simp;omega))))).mono ?_;rintro e w4 ⟨rfl,hb4⟩;have hb3:=HB3.out;have hb34:=hb3.trans (hb4.mono hb3.size);have q1:w4.cell? ⟨w.heap.size+1,0,none⟩=some (.slice none 0 0):=(hb34.cell (p:=⟨w.heap.size+1,0,none⟩) (by simp)).trans (by go_simp);have f1:w4.frozen? ⟨w.heap.size+1,0,none⟩=false:=(hb34.frozen (p:=⟨w.heap.size+1,0,none⟩) (by simp)).trans (by go_simp);have l1:w.heap.size+1<w4.heap.size:=Nat.lt_of_lt_of_le (by simp) hb34.size))
   refine bodyPost_ret (v:=.tuple #[stV none 0 0,.int .i64 1]) (by simp [results,Try.results53,go_sem,stV,q1]) rfl (ap_no rfl ?_)
   exact ((hb0 _ _).trans (hb34.mono (by simp;omega))).setCell (p:=⟨w.heap.size+1,0,none⟩) (by show w.heap.size<=w.heap.size+1;omega) _
  | true =>
   rw [hokb] at HVB
   simp only [if_true]
   have hle:rs.length<=100:=(stateOk_of hok).1
   have hle2:b.length<=20:=(batchOk_of hokb).1.2
   have HCP:=hid (fun w' h'=>copy_st_s a rs c w' h' hl)
   unfold CpPost stV at HCP
   have HLN:=hid (apU_len rs b)
   go_enter Try.func53,Try.ntmps53
   go_wp2_with (first | (go_at_call 68;refine (HVS.out _ (h.below (hb0 _ _))).mono ?_;rintro e w3 ⟨rfl,hb3⟩;have HB3:=hid hb3;clear hb3) | (go_at_call 52;refine (HVB.out _ (h2.below ((hb0 _ _).trans (HB3.out.mono (by simp;omega))))).mono ?_;rintro e w4 ⟨rfl,hb4⟩;have HB4:=hid (HB3.out.trans (hb4.mono HB3.out.size));clear hb4;have q0:w4.cell? ⟨w.heap.size,0,none⟩=some (.slice a rs.length c):=(HB4.out.cell (p:=⟨w.heap.size,0,none⟩) (by simp;omega)).trans (by go_simp)) | (go_at_call 40;refine (HCP.out _ (h.below ((hb0 _ _).trans (HB4.out.mono (by simp;omega))))).mono ?_;rintro e w5 ⟨a5,c5,rfl,hc5,ho5,hg5,hb5⟩;have HB5:=hid (HB4.out.trans (hb5.mono HB4.out.size));have HO5:=hid ho5;have hc5':=hc5;have HG5:=hid hg5;have HW45:=hid hb5.size;clear ho5 hg5 hb5))
   have hs4:w.heap.size+1<w4.heap.size:=by have:=HB4.out.size;simp at this;omega
   have hs5:w4.heap.size<=w5.heap.size:=HW45.out
   have HBW:Hid (Below w.heap.size w w5):=(hb0 _ _).trans (HB5.out.mono (by simp;omega))
   have HQ1:Hid (∀ w',Below w5.heap.size w5 w'->Row w' (w.heap.size+1) [.slice none 0 0]):=fun w' hb=>((row_atA (w:=w.alloc (.cells #[.slice a rs.length c] 77)) (A:=#[.slice none 0 0]) (t:=77) (g:=w.heap.size+1) (by simp)).below HB5.out).below hb
   go_loopw [7] (fun i wr=>∃ k:Nat,k<=b.length/\i=.int .i64 (k:Int)/\∃ va vc,Row wr w5.heap.size [.slice va (apU rs (b.take k)).length vc]/\(apU rs (b.take k)).length<=vc/\OwnS wr va (prcells (apU rs (b.take k)))/\(∀ g,blk va (apU rs (b.take k)).length=some g->w.heap.size+1<g/\g≠w5.heap.size)/\Below w5.heap.size w5 wr) (fun i _=>b.length-(intOf i).toNat)
   case atStart=>exact ⟨0,Nat.zero_le _,rfl,a5,c5,row_new w5 _ _,hc5',HO5.out.below ((Below.refl _ _).alloc (Nat.le_refl _) _),fun g hg=>by have h1:=HG5.out g hg;have h2:=HO5.out.lt rs.length (fun h e=>h (by have:=congrArg List.length e;rw [prcells_length,List.length_nil] at this;omega)) g hg;omega,(Below.refl _ _).alloc (Nat.le_refl _) _⟩
   case round =>
    obtain ⟨k,hk,rfl,va,vc,hrw,hcv,how,hbk,hbl⟩:=hrel
    have hN:=HLN.out k
    have hq6:=hrw.cell 0 _ rfl
    have hf6:=hrw.froz 0 (by simp)
    have hl6:=hrw.lt
    have hsr:=hbl.size
    have HRW:=hid hrw
    have HOW:=hid how
    have HBK:=hid hbk
    have HBL:=hid hbl
    clear hrw how hbk hbl
    by_cases hlt:k<b.length
    ·obtain ⟨bb,oo,s0,s1,g0,rfl,hc0,hc1,hc2,HS⟩:=(h2.below (HBW.out.trans (HBL.out.mono HBW.out.size))).at hlt
     have hlbb:bb<w.heap.size:=by
      rcases h2 with h | ⟨b',o',h1,h2,_⟩
      ·subst h;simp at hlt
      ·cases h1;exact h2
     have hlt':(k:Int)<(b.length:Int):=by omega
     have hk0:(0:Int)<=(k:Int):=by omega
     have hst:apU rs (b.take (k+1))=chF (s0,s1,g0) (apU rs (b.take k)):=by rw [takeA_snoc b k (ByteArray.empty,ByteArray.empty,false) hlt,apU_snoc,<-HS.out]
     have HST:=hid hst
     have HCH:=hid (fun W (hW:Prs W va (apU rs (b.take k)))=>change_s va (apU rs (b.take k)) vc s0 s1 g0 W hW (by omega))
     obtain ⟨cur,hcur⟩:∃ cur,cur=apU rs (b.take k):=⟨_,rfl⟩
     rw [<-hcur] at HST HCH HRW HOW HBK hq6 hN hcv
     clear hst hcur HS
     unfold stV CpPost at HCH
     have HT:Hid (∀ w',Below w.heap.size wr w'->w'.cell? ⟨bb,oo+k*3,none⟩=some (.string s0)/\w'.cell? ⟨bb,oo+k*3+1,none⟩=some (.string s1)/\w'.cell? ⟨bb,oo+k*3+2,none⟩=some (.bool g0)):=fun w' hb=>⟨(hb.cell (p:=⟨bb,oo+k*3,none⟩) hlbb).trans hc0,(hb.cell (p:=⟨bb,oo+k*3+1,none⟩) hlbb).trans hc1,(hb.cell (p:=⟨bb,oo+k*3+2,none⟩) hlbb).trans hc2⟩
     have hww:w.heap.size<=wr.heap.size:=by omega
     go_wp2_with fail
     refine wp_region_held_drew (S:=fun w'=>w'.cell? ⟨bb,oo+k*3,none⟩=some (.string s0)/\w'.cell? ⟨bb,oo+k*3+1,none⟩=some (.string s1)/\w'.cell? ⟨bb,oo+k*3+2,none⟩=some (.bool g0)) (by kernel_rfl) (HT.out _ (Below.refl _ _).drew) (fun hHe=>?_)
     refine TY 1 (.slice (some ⟨bb,oo,none⟩) b.length c2) rfl hHe ?_
     simp only [PS]
     refine TY 2 (.int .i64 (k:Int)) rfl hHe ?_
     simp only [PS]
     refine TY 3 (.pointer (some ⟨bb,oo+k*3,none⟩)) rfl hHe ?_
     simp only [PS]
     refine TY 4 (.agg #[.string s0,.string s1,.bool g0]) rfl hHe ?_
     simp only [PS]
     refine RD 0 rfl (fun K hK=>?_)
     go_simp
     refine hK.out _ _ hHe (fun _=>?_)
     clear hK K
     try simp only [PS]
     refine RD 5 rfl (fun K hK=>?_)
     refine step_call (by rfl) 70 #[.agg #[.slice va cur.length vc],.agg #[.string s0,.string s1,.bool g0]] (by go_simp) (HCH.out _ ((HOW.out.below (Below.refl _ _).drew).prsA)) ?_
     rintro e w7 ⟨a7,c7,rfl,hc7,ho7,hg7,hb7⟩
     refine ⟨_,rfl,?_⟩
     have hb7':Below wr.heap.size wr w7:=(Below.refl _ _).drew.trans hb7
     have hr7:=HRW.out.below hb7'
     have q7:=hr7.cell 0 _ rfl
     have f7:=hr7.froz 0 (by simp)
     have l7:=hr7.lt
     refine hK.out _ _ (HT.out _ (hb7'.mono hww)) (fun hHd2=>?_)
     clear hK K
     try simp only [PS]
     refine RD 6 rfl (fun K hK=>?_)
     go_simp
     refine hK.out _ _ (HT.out _ ((hb7'.mono hww).setCell (p:=⟨w5.heap.size,0,none⟩) (by show w.heap.size<=w5.heap.size;omega) _)) (fun hHd3=>?_)
     clear hK K
     try simp only [PS]
     refine DN ?_
     go_wp2
     refine ⟨⟨k+1,by omega,by go_num,a7,c7,?_,?_,?_,?_,?_⟩,by simp [intOf];omega⟩
     ·rw [HST.out];exact hr7.set 0 (by simp) _
     ·rw [HST.out];exact hc7
     ·rw [HST.out];exact ho7.setA _ (fun g hg hne=>by have:wr.heap.size<=g:=hg7 g (by subst hg;exact blk_pos _ _ _ (prcells_neA hne));show w5.heap.size≠g;omega) _
     ·rw [HST.out];exact fun g hg=>by have:wr.heap.size<=g:=hg7 g hg;omega
     ·exact (HBL.out.trans (hb7'.mono hsr)).setCell (p:=⟨w5.heap.size,0,none⟩) (Nat.le_refl _) _
    ·have hkl:k=b.length:=by omega
     subst hkl
     have hr1:=HQ1.out _ HBL.out
     have q1:=hr1.cell 0 _ rfl
     have f1:=hr1.froz 0 (by simp)
     have l1:=hr1.lt
     have hBn:w.heap.size+1≠w5.heap.size:=by omega
     have hBn2:¬ w5.heap.size=w.heap.size+1:=by omega
     rw [List.take_length] at hq6 hcv HRW HOW HBK
     clear hr1 hN
     by_cases h100:(apU rs b).length<=100
     ·have HIF:=hid h100
      have h100':((apU rs b).length:Int)<=100:=by omega
      clear h100
      go_wp2_with fail
      refine bodyPost_ret (v:=.tuple #[stV va (apU rs b).length vc,.int .i64 0]) (by simp [results,Try.results53,go_sem,stV,q1]) rfl ⟨va,vc,rfl,hcv,?_,fun g hg=>by have:=(HBK.out g hg).1;omega,?_⟩
      ·exact HOW.out.setA _ (fun g hg hne=>by have:=(HBK.out g (by subst hg;exact blk_pos _ _ _ (prcells_neA hne))).1;show w.heap.size+1≠g;omega) _
      ·exact (HBW.out.trans (HBL.out.mono HBW.out.size)).setCell (p:=⟨w.heap.size+1,0,none⟩) (by show w.heap.size<=w.heap.size+1;omega) _
     ·have HIF:=hid h100
      have h100':¬ ((apU rs b).length:Int)<=100:=by omega
      clear h100
      go_wp2_with fail
      refine bodyPost_ret (v:=.tuple #[stV none 0 0,.int .i64 2]) (by simp [results,Try.results53,go_sem,stV,q1]) rfl (ap_no rfl ?_)
      exact (HBW.out.trans (HBL.out.mono HBW.out.size)).setCell (p:=⟨w.heap.size+1,0,none⟩) (by show w.heap.size<=w.heap.size+1;omega) _
theorem ops_take {w:World} {b o:Nat} {rs:List (Bool×Int×ByteArray)} (h:Ops w (some ⟨b,o,none⟩) rs) (k:Nat):Ops w (some ⟨b,o,none⟩) (rs.take k):=by
 rcases h with h | ⟨b1,o1,e,hb,hc⟩
 ·exact .inl (by rw [h];exact List.take_nil)
 ·cases e
  refine .inr ⟨b,o,rfl,hb,fun i hi=>?_⟩
  rw [List.length_take] at hi
  have:=hc i (by omega)
  rw [show (rs.take k).getD i (false,0,ByteArray.empty)=rs.getD i (false,0,ByteArray.empty) by simp [List.getD,List.getElem?_take,show i<k by omega]]
  exact this
theorem ops_drop {w:World} {b o:Nat} {rs:List (Bool×Int×ByteArray)} (h:Ops w (some ⟨b,o,none⟩) rs) (k:Nat):Ops w (some ⟨b,o+k*3,none⟩) (rs.drop k):=by
 rcases h with h | ⟨b1,o1,e,hb,hc⟩
 ·exact .inl (by rw [h];exact List.drop_nil)
 ·cases e
  refine .inr ⟨b,o+k*3,rfl,hb,fun i hi=>?_⟩
  rw [List.length_drop] at hi
  have:=hc (k+i) (by omega)
  rw [show (rs.drop k).getD i (false,0,ByteArray.empty)=rs.getD (k+i) (false,0,ByteArray.empty) by simp [List.getD,List.getElem?_drop]]
  rw [show o+(k+i)*3=o+k*3+i*3 by omega] at this
  exact this
end Go.Proofs.Ythdilmkbnpmdaaa
