import Derived.Test.YtcoegjnjjdndjaaGreatDoorPrG44
import Derived.Test.YtcoegjnjjdndjaaGreatDoorPrApS
import Derived.Test.YtcoegjnjjdndjaaGreatDoorPrVS
import Derived.Test.YtcoegjnjjdndjaaGreatDoorPrG37
import Derived.Test.YtcoegjnjjdndjaaGreatDoorPrDrvOf
set_option maxHeartbeats 16000000
set_option maxRecDepth 8000
set_option linter.unusedVariables false
set_option linter.unusedSimpArgs false
namespace Go.Proofs.YtcoegjnjjdndjaaGreatDoor
open Go.RowKit
def ApPost (w w':World) (e:Ending) (rs:List Pr) (code:Int):Prop:=∃ a c,e=.returned (.tuple #[stV a rs.length c,.int .i64 code])/\rs.length<=c/\OwnS w' a (prcells rs)/\(∀ g,blk a rs.length=some g->w.heap.size<=g)/\Below w.heap.size w w'
theorem ap_no {w w':World} {e:Ending} {a:Option Addr} {c:Nat} {code:Int} (he:e=.returned (.tuple #[stV a 0 c,.int .i64 code])) (hb:Below w.heap.size w w'):ApPost w w' e [] code:=⟨a,c,he,Nat.zero_le _,.inl rfl,fun g h=>(by cases h),hb⟩
theorem OwnS.setA {w:World} {a:Option Addr} {cs:List Value} (h:OwnS w a cs) (p:Addr) (hp:∀ g,a=some ⟨g,0,none⟩->cs≠[]->p.block≠g) (v:Value):OwnS (w.setCell p v) a cs:=by
 by_cases h0:cs=[]
 ·exact .inl h0
 ·obtain ⟨g,rfl,hr⟩:=h.resolve_left h0
  exact .inr ⟨g,rfl,hr.other p (hp g rfl h0) v⟩
theorem OwnS.prsA {w:World} {a:Option Addr} {rs:List Pr} (h:OwnS w a (prcells rs)):Prs w a rs:=by
 rcases h with h | ⟨g,rfl,h⟩
 ·exact .inl (by have:=congrArg List.length h;rw [prcells_length,List.length_nil] at this;exact List.eq_nil_of_length_eq_zero (by omega))
 ·exact h.prs
theorem prcells_neA {rs:List Pr} (h:prcells rs≠[]):rs.length≠0:=fun e=>h (by rw [List.eq_nil_of_length_eq_zero e];rfl)
set_option maxHeartbeats 16000000 in
theorem apply_s (a:Option Addr) (rs:List Pr) (c:Nat) (a2:Option Addr) (b:List Ch) (c2:Nat) (w:World) (h:Prs w a rs) (hl:rs.length<=1048576) (hs:∀ x∈rs,x.1.size<=1048576/\x.2.size<=1048576) (h2:Chs w a2 b) (hl2:b.length<=1048576) (hs2:∀ x∈b,x.1.size<=1048576/\x.2.1.size<=1048576) :
  Calls Tryz.prog 86 #[stV a rs.length c,.slice a2 b.length c2] w fun e w'=>ApPost w w' e (apR rs b) (apC rs b):=by
 have hb0:∀ o1 o2,Below w.heap.size w ((w.alloc o1).alloc o2):=fun o1 o2=>((Below.refl _ _).alloc (Nat.le_refl _) _).alloc (by simp) _
 have HVS:=hid (fun w' h'=>vstate_s a rs c w' h' hl hs)
 have HVB:=hid (fun w' h'=>vbatch_s a2 b c2 w' h' hl2 hs2)
 unfold stV
 unfold apR apC
 cases hok:stateOk rs with
 | false =>
  rw [hok] at HVS
  simp only [Bool.false_and,Bool.false_eq_true,if_false]
  rw [if_neg (by omega)]
  go_enter Tryz.func86,Tryz.ntmps86
  go_wp2_with (go_at_call 44;refine (HVS.out _ (h.below (hb0 _ _))).mono ?_;rintro e w3 ⟨rfl,hb3⟩;have q1:w3.cell? ⟨w.heap.size+1,0,none⟩=some (.slice none 0 0):=(hb3.cell (p:=⟨w.heap.size+1,0,none⟩) (by simp)).trans (by go_simp);have f1:w3.frozen? ⟨w.heap.size+1,0,none⟩=false:=(hb3.frozen (p:=⟨w.heap.size+1,0,none⟩) (by simp)).trans (by go_simp);have l1:w.heap.size+1<w3.heap.size:=Nat.lt_of_lt_of_le (by simp) hb3.size)
  refine bodyPost_ret (v:=.tuple #[stV none 0 0,.int .i64 1]) (by simp [results,Tryz.results86,go_sem,stV,q1]) rfl (ap_no rfl ?_)
  exact ((hb0 _ _).trans (hb3.mono (by simp;omega))).setCell (p:=⟨w.heap.size+1,0,none⟩) (by show w.heap.size<=w.heap.size+1;omega) _
 | true =>
  rw [hok] at HVS
  simp only [Bool.true_and]
  cases hokb:batchOk b with
  | false =>
   rw [hokb] at HVB
   simp only [Bool.false_eq_true,if_false]
   rw [if_neg (by omega)]
   go_enter Tryz.func86,Tryz.ntmps86
   go_wp2_with (first | (go_at_call 44;refine (HVS.out _ (h.below (hb0 _ _))).mono ?_;rintro e w3 ⟨rfl,hb3⟩;have HB3:=hid hb3;clear hb3) | (go_at_call 127;refine (HVB.out _ (h2.below ((hb0 _ _).trans (HB3.out.mono (by simp;omega))))).mono ?_;rintro e w4 ⟨rfl,hb4⟩;have hb3:=HB3.out;have hb34:=hb3.trans (hb4.mono hb3.size);have q1:w4.cell? ⟨w.heap.size+1,0,none⟩=some (.slice none 0 0):=(hb34.cell (p:=⟨w.heap.size+1,0,none⟩) (by simp)).trans (by go_simp);have f1:w4.frozen? ⟨w.heap.size+1,0,none⟩=false:=(hb34.frozen (p:=⟨w.heap.size+1,0,none⟩) (by simp)).trans (by go_simp);have l1:w.heap.size+1<w4.heap.size:=Nat.lt_of_lt_of_le (by simp) hb34.size))
   refine bodyPost_ret (v:=.tuple #[stV none 0 0,.int .i64 1]) (by simp [results,Tryz.results86,go_sem,stV,q1]) rfl (ap_no rfl ?_)
   exact ((hb0 _ _).trans (hb34.mono (by simp;omega))).setCell (p:=⟨w.heap.size+1,0,none⟩) (by show w.heap.size<=w.heap.size+1;omega) _
  | true =>
   rw [hokb] at HVB
   simp only [if_true]
   have hle:rs.length<=100:=(stateOk_of hok).1
   have hle2:b.length<=20:=(batchOk_of hokb).1.2
   have HCP:=hid (fun w' h'=>copy_st_s a rs c w' h' hl)
   unfold CpPost stV at HCP
   have HLN:=hid (apU_len rs b)
   go_enter Tryz.func86,Tryz.ntmps86
   go_wp2_with (first | (go_at_call 44;refine (HVS.out _ (h.below (hb0 _ _))).mono ?_;rintro e w3 ⟨rfl,hb3⟩;have HB3:=hid hb3;clear hb3) | (go_at_call 127;refine (HVB.out _ (h2.below ((hb0 _ _).trans (HB3.out.mono (by simp;omega))))).mono ?_;rintro e w4 ⟨rfl,hb4⟩;have HB4:=hid (HB3.out.trans (hb4.mono HB3.out.size));clear hb4;have q0:w4.cell? ⟨w.heap.size,0,none⟩=some (.slice a rs.length c):=(HB4.out.cell (p:=⟨w.heap.size,0,none⟩) (by simp;omega)).trans (by go_simp)) | (go_at_call 19;refine (HCP.out _ (h.below ((hb0 _ _).trans (HB4.out.mono (by simp;omega))))).mono ?_;rintro e w5 ⟨a5,c5,rfl,hc5,ho5,hg5,hb5⟩;have HB5:=hid (HB4.out.trans (hb5.mono HB4.out.size));have HO5:=hid ho5;have hc5':=hc5;have HG5:=hid hg5;have HW45:=hid hb5.size;clear ho5 hg5 hb5))
   have hs4:w.heap.size+1<w4.heap.size:=by have:=HB4.out.size;simp at this;omega
   have hs5:w4.heap.size<=w5.heap.size:=HW45.out
   have HBW:Hid (Below w.heap.size w w5):=(hb0 _ _).trans (HB5.out.mono (by simp;omega))
   have HQ1:Hid (∀ w',Below w5.heap.size w5 w'->Row w' (w.heap.size+1) [.slice none 0 0]):=fun w' hb=>((row_atA (w:=w.alloc (.cells #[.slice a rs.length c] 39)) (A:=#[.slice none 0 0]) (t:=39) (g:=w.heap.size+1) (by simp)).below HB5.out).below hb
   go_loopw [7] (fun i wr=>∃ k:Nat,k<=b.length/\i=.int .i64 (k:Int)/\∃ va vc,Row wr w5.heap.size [.slice va (apU rs (b.take k)).length vc]/\(apU rs (b.take k)).length<=vc/\OwnS wr va (prcells (apU rs (b.take k)))/\(∀ g,blk va (apU rs (b.take k)).length=some g->w.heap.size+1<g/\g≠w5.heap.size)/\Below w5.heap.size w5 wr) (fun i _=>b.length-(intOf i).toNat)
   case atStart=>exact ⟨0,Nat.zero_le _,rfl,a5,c5,row_new w5 _ _,hc5',HO5.out.below ((Below.refl _ _).alloc (Nat.le_refl _) _),fun g hg=>by have h1:=HG5.out g hg;have h2:=HO5.out.lt rs.length (fun h e=>h (by have:=congrArg List.length e;rw [prcells_length,List.length_nil] at this;omega)) g hg;omega,(Below.refl _ _).alloc (Nat.le_refl _) _⟩
   case round =>
    obtain ⟨k,hk,rfl,va,vc,hrw,hcv,how,hbk,hbl⟩:=hrel
    have hN:=HLN.out k
    have hq6:=hrw.cell 0 _ rfl
    have hf6:=hrw.froz 0 (by simp)
    have hl6:=hrw.lt
    have hsr:=hbl.size
    have HRW:=hid hrw
    have HOW:=hid how
    have HBK:=hid hbk
    have HBL:=hid hbl
    clear hrw how hbk hbl
    by_cases hlt:k<b.length
    ·obtain ⟨bb,oo,s0,s1,g0,rfl,hc0,hc1,hc2,HS⟩:=(h2.below (HBW.out.trans (HBL.out.mono HBW.out.size))).at hlt
     have hlbb:bb<w.heap.size:=by
      rcases h2 with h | ⟨b',o',h1,h2,_⟩
      ·subst h;simp at hlt
      ·cases h1;exact h2
     have hlt':(k:Int)<(b.length:Int):=by omega
     have hk0:(0:Int)<=(k:Int):=by omega
     have hst:apU rs (b.take (k+1))=chF (s0,s1,g0) (apU rs (b.take k)):=by rw [takeA_snoc b k (ByteArray.empty,ByteArray.empty,false) hlt,apU_snoc,<-HS.out]
     have HST:=hid hst
     have HCH:=hid (fun W (hW:Prs W va (apU rs (b.take k)))=>change_s va (apU rs (b.take k)) vc s0 s1 g0 W hW (by omega))
     obtain ⟨cur,hcur⟩:∃ cur,cur=apU rs (b.take k):=⟨_,rfl⟩
     rw [<-hcur] at HST HCH HRW HOW HBK hq6 hN hcv
     clear hst hcur HS
     unfold stV CpPost at HCH
     have HT:Hid (∀ w',Below w.heap.size wr w'->w'.cell? ⟨bb,oo+k*3,none⟩=some (.string s0)/\w'.cell? ⟨bb,oo+k*3+1,none⟩=some (.string s1)/\w'.cell? ⟨bb,oo+k*3+2,none⟩=some (.bool g0)):=fun w' hb=>⟨(hb.cell (p:=⟨bb,oo+k*3,none⟩) hlbb).trans hc0,(hb.cell (p:=⟨bb,oo+k*3+1,none⟩) hlbb).trans hc1,(hb.cell (p:=⟨bb,oo+k*3+2,none⟩) hlbb).trans hc2⟩
     have hww:w.heap.size<=wr.heap.size:=by omega
     go_wp2_with fail
     refine wp_region_held_drew (S:=fun w'=>w'.cell? ⟨bb,oo+k*3,none⟩=some (.string s0)/\w'.cell? ⟨bb,oo+k*3+1,none⟩=some (.string s1)/\w'.cell? ⟨bb,oo+k*3+2,none⟩=some (.bool g0)) (by kernel_rfl) (HT.out _ (Below.refl _ _).drew) (fun hHeld=>?_)
     refine TY (i:=1) (v:=.slice (some ⟨bb,oo,none⟩) b.length c2) rfl hHeld ?_
     simp only [PS]
     refine TY (i:=2) (v:=.int .i64 (k:Int)) rfl hHeld ?_
     simp only [PS]
     refine TY (i:=3) (v:=.pointer (some ⟨bb,oo+k*3,none⟩)) rfl hHeld ?_
     simp only [PS]
     refine TY (i:=4) (v:=.agg #[.string s0,.string s1,.bool g0]) rfl hHeld ?_
     simp only [PS]
     refine RD (i:=0) rfl (fun K hK=>?_)
     go_simp
     refine hK.out _ _ hHeld (fun _=>?_)
     clear hK K
     try simp only [PS]
     refine RD (i:=5) rfl (fun K hK=>?_)
     refine step_call (by rfl) 128 #[.agg #[.slice va cur.length vc],.agg #[.string s0,.string s1,.bool g0]] (by go_simp) (HCH.out _ ((HOW.out.below (Below.refl _ _).drew).prsA)) ?_
     rintro e w7 ⟨a7,c7,rfl,hc7,ho7,hg7,hb7⟩
     refine ⟨_,rfl,?_⟩
     have hb7':Below wr.heap.size wr w7:=(Below.refl _ _).drew.trans hb7
     have hr7:=HRW.out.below hb7'
     have q7:=hr7.cell 0 _ rfl
     have f7:=hr7.froz 0 (by simp)
     have l7:=hr7.lt
     refine hK.out _ _ (HT.out _ (hb7'.mono hww)) (fun hHd2=>?_)
     clear hK K
     try simp only [PS]
     refine RD (i:=6) rfl (fun K hK=>?_)
     go_simp
     refine hK.out _ _ (HT.out _ ((hb7'.mono hww).setCell (p:=⟨w5.heap.size,0,none⟩) (by show w.heap.size<=w5.heap.size;omega) _)) (fun hHd3=>?_)
     clear hK K
     try simp only [PS]
     refine wpAnyH_done (by kernel_rfl) ?_ _
     go_wp2
     refine ⟨⟨k+1,by omega,by go_num,a7,c7,?_,?_,?_,?_,?_⟩,by simp [intOf];omega⟩
     ·rw [HST.out];exact hr7.set 0 (by simp) _
     ·rw [HST.out];exact hc7
     ·rw [HST.out];exact ho7.setA _ (fun g hg hne=>by have:wr.heap.size<=g:=hg7 g (by subst hg;exact blk_pos _ _ _ (prcells_neA hne));show w5.heap.size≠g;omega) _
     ·rw [HST.out];exact fun g hg=>by have:wr.heap.size<=g:=hg7 g hg;omega
     ·exact (HBL.out.trans (hb7'.mono hsr)).setCell (p:=⟨w5.heap.size,0,none⟩) (Nat.le_refl _) _
    ·have hkl:k=b.length:=by omega
     subst hkl
     have hr1:=HQ1.out _ HBL.out
     have q1:=hr1.cell 0 _ rfl
     have f1:=hr1.froz 0 (by simp)
     have l1:=hr1.lt
     have hBn:w.heap.size+1≠w5.heap.size:=by omega
     have hBn2:¬ w5.heap.size=w.heap.size+1:=by omega
     rw [List.take_length] at hq6 hcv HRW HOW HBK
     clear hr1 hN
     by_cases h100:(apU rs b).length<=100
     ·have HIF:=hid h100
      have h100':((apU rs b).length:Int)<=100:=by omega
      clear h100
      go_wp2_with fail
      refine bodyPost_ret (v:=.tuple #[stV va (apU rs b).length vc,.int .i64 0]) (by simp [results,Tryz.results86,go_sem,stV,q1]) rfl ⟨va,vc,rfl,hcv,?_,fun g hg=>by have:=(HBK.out g hg).1;omega,?_⟩
      ·exact HOW.out.setA _ (fun g hg hne=>by have:=(HBK.out g (by subst hg;exact blk_pos _ _ _ (prcells_neA hne))).1;show w.heap.size+1≠g;omega) _
      ·exact (HBW.out.trans (HBL.out.mono HBW.out.size)).setCell (p:=⟨w.heap.size+1,0,none⟩) (by show w.heap.size<=w.heap.size+1;omega) _
     ·have HIF:=hid h100
      have h100':¬ ((apU rs b).length:Int)<=100:=by omega
      clear h100
      go_wp2_with fail
      refine bodyPost_ret (v:=.tuple #[stV none 0 0,.int .i64 2]) (by simp [results,Tryz.results86,go_sem,stV,q1]) rfl (ap_no rfl ?_)
      exact (HBW.out.trans (HBL.out.mono HBW.out.size)).setCell (p:=⟨w.heap.size+1,0,none⟩) (by show w.heap.size<=w.heap.size+1;omega) _
def covs:List (Int×List Int)->List (List Int)->List (List Int)
 | [],ps=>ps
 | x::r,ps=>covs r (ps.set x.1.toNat x.2)
theorem covs_length:∀ (hs:List (Int×List Int)) (ps:List (List Int)),(covs hs ps).length=ps.length
 | [],_=>rfl
 | x::r,ps=>by rw [covs,covs_length r];simp
theorem covs_append:∀ (hs:List (Int×List Int)) (x:Int×List Int) (ps:List (List Int)),covs (hs++[x]) ps=(covs hs ps).set x.1.toNat x.2
 | [],_,_=>rfl
 | y::r,x,ps=>by rw [List.cons_append,covs,covs_append r];rfl
theorem covs_take (hs:List (Int×List Int)) (ps:List (List Int)) (k:Nat) (h:k<hs.length):covs (hs.take (k+1)) ps=(covs (hs.take k) ps).set (hs.getD k (0,[])).1.toNat (hs.getD k (0,[])).2:=by
 rw [List.take_succ_eq_append_getElem h,covs_append]
 simp [List.getD,h]
theorem meth_plate (k:Nat) (a:Option Addr) (n c:Nat) (w:World):Sem.run Tryz.prog (method (k+1) 148 (.slice a n c) "loop.example/kilnstone/impl.read") w=.ok (194,.slice a n c) w:=by kernel_rfl
theorem meth_cover (k:Nat) (v v':Value) (w:World):Sem.run Tryz.prog (method (k+1) 198 (.agg #[v,v']) "loop.example/kilnstone/impl.read") w=.ok (197,.agg #[v,v']) w:=by kernel_rfl
set_option maxRecDepth 100000 in
set_option maxHeartbeats 16000000 in
theorem rd_cover (a:Option Addr) (hs:List (Int×List Int)) (c:Nat) (g n cg m:Nat) (ps:List (List Int)) (w:World) (h:Hld w a hs) (h64:∀ p∈hs,p.2.length=64) (hpos:∀ p∈hs,0<=p.1) (hl:hs.length<=300) (hp:PR w g ps) (hpl:ps.length=n) (hn2:n<=200) (hm:m<n) :
  Calls Tryz.prog 197 #[.agg #[.slice a hs.length c,.iface 148 (.slice (some ⟨g,0,none⟩) n cg)],.int .i64 (m:Int)] w fun e w'=>e=.returned (.tuple #[.agg (((covs hs ps).getD m []).map (Value.int .u8)).toArray,.bool true])/\Below w.heap.size w w':=by
 obtain ⟨RES,HRES⟩:∃ RES,Hid (RES=(covs hs ps).getD m []):=⟨_,hid rfl⟩
 rw [<-HRES.out]
 have hb0:∀ o1 o2,Below w.heap.size w ((w.alloc o1).alloc o2):=fun o1 o2=>((Below.refl _ _).alloc (Nat.le_refl _) _).alloc (by simp) _
 go_enter Tryz.func197,Tryz.ntmps197
 go_wp2_with fail
 obtain ⟨wy,HWY⟩:∃ wy,wy=((w.alloc (.cells #[.slice a hs.length c,.iface 148 (.slice (some ⟨g,0,none⟩) n cg)] 198)).alloc (.cells sec64 193)):=⟨_,rfl⟩
 have hby:=hb0 (.cells #[.slice a hs.length c,.iface 148 (.slice (some ⟨g,0,none⟩) n cg)] 198) (.cells sec64 193)
 have hcx:=(Cx.new w (.slice a hs.length c) (.iface 148 (.slice (some ⟨g,0,none⟩) n cg)) 198).below (below_new _ (.cells sec64 193))
 have hrr:=row_new' (w.alloc (.cells #[.slice a hs.length c,.iface 148 (.slice (some ⟨g,0,none⟩) n cg)] 198)) sec64 193 (w.heap.size+1) (by simp)
 rw [<-HWY] at hby hcx hrr
 go_loopw [6] (fun i wr=>∃ k:Nat,k<=hs.length/\i=.int .i64 ((k:Int)-1)/\Hid (RES=(covs (hs.take k) ps).getD m [])/\wr=wy) (fun i _=>((intOf i)+1).toNat)
 case atStart=>exact ⟨hs.length,Nat.le_refl _,rfl,by show _=_;rw [List.take_length,HRES.out],by rw [HWY];kernel_rfl⟩
 case round =>
  obtain ⟨k,hk,rfl,HK,rfl⟩:=hrel
  have q0:=hcx.c0
  have q1:=hcx.c1
  have HRR:=hid hrr
  have HBY:=hid hby
  clear hrr HWY
  rcases k with _ | j
  ·have hpw:=hp.below hby
   have hmp:=fun k=>meth_plate k (some ⟨g,0,none⟩) n cg wr
   have hxl:RES.length=64:=by rw [HK.out];exact getD_len hp.len (by omega)
   have hxm:(RES.map (Value.int .u8)).toArray.size=64:=by simp [hxl]
   have HI64:Hid ((Tryz.prog.info? 193).map (·.size)=some (RES.map (Value.int .u8)).length):=by show _=_;rw [List.length_map,hxl];kernel_rfl
   have HKR:Hid (ps.getD m []=RES):=HK.out.symm
   go_wp2_with fail
   refine (rd_plate g n cg m ps _ hpw hpl hn2 hm).mono ?_
   rw [HKR.out]
   rintro e w2 ⟨rfl,hb2⟩
   have hth:=(HRR.out.below hb2).there (n:=64) (by kernel_rfl)
   have HB2:=hid (Below.then HBY.out (Nat.le_refl _) hb2)
   clear hb2 hpw hmp q0 q1
   go_wp2_with (with_reducible refine at_store 193 _ _ rfl ?_;refine wpList_store_mid rfl 193 _ _ rfl (w.heap.size+1) 0 (RES.map (Value.int .u8)).toArray rfl rfl (by rw [hxm];exact hth) (by rw [hxm];kernel_rfl) (all_oneCell_toArray (ints_one RES)) ?_)
   refine bodyPost_ret (v:=.tuple #[.agg (RES.map (Value.int .u8)).toArray,.bool true]) (results_cell1_tmp (p:=4) (u:=5) Tryz.results197 _ _ (w.heap.size+1) 0 rfl (RES.map (Value.int .u8)) _ (World.rangeAt_setCells_same _ _ _ _ (by rw [List.length_map,hxl];exact hth)) Tryz.underlying193 rfl HI64.out) rfl ⟨rfl,?_⟩
   exact Go.below_setCells (by omega) _ _ _ HB2.out
  ·have hj:j<hs.length:=by omega
   obtain ⟨b,o,m0,x,rfl,hlb,hrg,HX⟩:=(h.below hby).at hj
   have hxl:x.length=64:=h64 (m0,x) (by rw [HX.out];simp [List.getD,hj])
   have hc0:=hrg 0 _ rfl
   rw [Nat.add_zero] at hc0
   have e1:((j+1:Nat):Int)-1=(j:Int):=by omega
   rw [e1]
   clear e1
   by_cases hmm:m0=(m:Int)
   ·subst hmm
    have hmc:m<(covs (hs.take j) ps).length:=by rw [covs_length];omega
    have HKR:Hid (x=RES):=by
     show _=_
     rw [HK.out,covs_take hs ps j hj,<-HX.out,Int.toNat_natCast]
     simp [List.getD,hmc]
    rw [HKR.out] at hrg hxl
    have hxm:(RES.map (Value.int .u8)).toArray.size=64:=by simp [hxl]
    have HI64:Hid ((Tryz.prog.info? 193).map (·.size)=some (RES.map (Value.int .u8)).length):=by show _=_;rw [List.length_map,hxl];kernel_rfl
    have HRG:Hid (wr.rangeAt b (o+j*65+1) (RES.map (Value.int .u8))):=fun i v hv=>by
     have:=hrg (i+1) v (by simpa using hv)
     rw [<-this];congr 2;omega
    have hth:=HRR.out.there (n:=64) (by kernel_rfl)
    clear hrg
    go_wp2_with (first | (with_reducible refine at_load 193 _ rfl ?_;refine wpList_load_mid rfl 193 _ rfl b (o+j*65+1) rfl (RES.map (Value.int .u8)) _ HRG.out Tryz.underlying193 rfl HI64.out ?_) | (with_reducible refine at_store 193 _ _ rfl ?_;refine wpList_store_mid rfl 193 _ _ rfl (w.heap.size+1) 0 (RES.map (Value.int .u8)).toArray rfl rfl (by rw [hxm];exact hth) (by rw [hxm];kernel_rfl) (all_oneCell_toArray (ints_one RES)) ?_))
    refine bodyPost_ret (v:=.tuple #[.agg (RES.map (Value.int .u8)).toArray,.bool true]) (results_cell1_tmp (p:=4) (u:=5) Tryz.results197 _ _ (w.heap.size+1) 0 rfl (RES.map (Value.int .u8)) _ (World.rangeAt_setCells_same _ _ _ _ (by rw [List.length_map,hxl];exact hth)) Tryz.underlying193 rfl HI64.out) rfl ⟨rfl,?_⟩
    exact Go.below_setCells (by omega) _ _ _ HBY.out
   ·have HK':Hid (RES=(covs (hs.take j) ps).getD m []):=by
     show _=_
     rw [HK.out,covs_take hs ps j hj,<-HX.out]
     have h0:0<=m0:=hpos (m0,x) (by rw [HX.out];simp [List.getD,hj])
     have hne:m0.toNat≠m:=by omega
     simp [List.getD,List.getElem?_set_ne hne]
    clear hrg
    go_wp2
    go_roundw
    case rel=>exact ⟨j,by omega,by go_num,HK',trivial⟩
    case measure=>simp [intOf]
theorem covs_all:∀ (hs:List (Int×List Int)) (ps:List (List Int)),(∀ p∈hs,p.2.length=64)->(∀ p∈ps,p.length=64)->∀ p∈covs hs ps,p.length=64
 | [],ps,_,h=>h
 | x::r,ps,h1,h2=>covs_all r _ (fun p hp=>h1 p (List.mem_cons_of_mem _ hp)) (fun p hp=>by
  rcases List.mem_or_eq_of_mem_set hp with h3 | h3
  ·exact h2 p h3
  ·rw [h3];exact h1 x (List.mem_cons_self ..))
theorem secs_covs:∀ (ws:List (Int×ByteArray)) (ss:List ByteArray),secs (covs (hsOf ws) (ss.map nums))=syncs ws ss
 | [],ss=>by
  show (ss.map nums).map strOfNums=ss
  rw [List.map_map]
  exact List.map_id'' (fun s=>strOfNums_nums s) ss
 | x::r,ss=>by
  have:=secs_covs r (ss.set x.1.toNat x.2)
  rw [List.map_set] at this
  exact this
end Go.Proofs.YtcoegjnjjdndjaaGreatDoor
