import Derived.Test.YtcoegjnjjdndjaaGreatDoorPrG47
import Derived.Test.YtcoegjnjjdndjaaGreatDoorPrG50
import Derived.Test.YtcoegjnjjdndjaaGreatDoorPrG34
import Derived.Sort.LoopGhostIn
import Derived.Scope
import Derived.Stop.RegionWithIn
import Derived.Sort.CutIn
import Derived.Test.YtcoegjnjjdndjaaGreatDoorPrG51
set_option maxHeartbeats 16000000
set_option maxRecDepth 8000
set_option linter.unusedVariables false
set_option linter.unusedSimpArgs false
namespace Go.Proofs.YtcoegjnjjdndjaaGreatDoor
open Go.RowKit
set_option maxHeartbeats 16000000
theorem rpage_i (v0 v1:Value) (x:List Int) (frm size n:Int) (m:Int) (w:World) (hxl:x.length=64) (hfm:IntKind.i64.wrap (frm+m)=frm+m)
  (HRD:∀ wx,Below w.heap.size w wx->Calls Tryz.prog 197 #[.agg #[v0,v1],.int .i64 (frm+m)] wx fun e w'=>e=.returned (.tuple #[.agg (x.map (Value.int .u8)).toArray,.bool true])/\Below wx.heap.size wx w')
  (ty:TypeId) (v:Value) (hv:w.cell? ⟨1,0,none⟩=some (.iface ty v)) (h0:w.cell? ⟨0,0,none⟩=some (.iface 253 (.agg #[.pointer (some ⟨3,165,none⟩)]))) (hg:1<w.heap.size) :
  Calls Tryz.prog 137 #[regV v0 v1 frm size n,.int .i64 m] w fun e w'=>e=.returned (rpV (rpRes (strOfNums x) n))/\Below w.heap.size w w':=by
 have hb0:∀ o1 o2,Below w.heap.size w ((w.alloc o1).alloc o2):=fun o1 o2=>((Below.refl _ _).alloc (Nat.le_refl _) _).alloc (by simp) _
 have HRP:=hid (fun wx (hb:Below w.heap.size w wx)=>readpage_i (strOfNums x) n wx ty v ((hb.cell (p:=⟨1,0,none⟩) hg).trans hv) ((hb.cell (p:=⟨0,0,none⟩) (by show 0<_;omega)).trans h0) (by have:=hb.size;omega))
 obtain ⟨k,l,q,p,b,hRR⟩:∃ k l q p b,rpV (rpRes (strOfNums x) n)=.tuple #[pageV k l q p,.bool b]:=by
  cases rpRes (strOfNums x) n with
  | none=>exact ⟨_,_,_,_,_,rfl⟩
  | some y=>obtain ⟨k,l,q,p⟩:=y;exact ⟨_,_,_,_,_,rfl⟩
 rw [hRR] at HRP ⊢
 clear hRR hv h0
 have hxm:(x.map (Value.int .u8)).toArray.size=64:=by simp [hxl]
 have HI64:Hid ((Tryz.prog.info? 193).map (·.size)=some (x.map (Value.int .u8)).length):=by show _=_;rw [List.length_map,hxl];kernel_rfl
 have hmc:=fun k wx=>meth_cover k v0 v1 wx
 obtain ⟨sx,HSX⟩:∃ sx,Hid (sx=strOfNums x):=⟨_,hid rfl⟩
 rw [<-HSX.out] at HRP
 have HRDh:=hid HRD
 clear HRD
 go_enter Tryz.func137,Tryz.ntmps137
 go_wp2_with fail
 refine (HRDh.out _ (hb0 _ _)).mono ?_
 rintro e w2 ⟨rfl,hb2⟩
 have HQ2:=hid (((B4.new w (.iface 198 (.agg #[v0,v1])) (.int .i64 frm) (.int .i64 size) (.int .i64 n) 156).alloc (.cells #[.int .i64 0,.int .i64 0,.int .i64 0,.string ByteArray.empty] 98)).below hb2)
 have hr2:=(B4.new (w.alloc (.cells #[.iface 198 (.agg #[v0,v1]),.int .i64 frm,.int .i64 size,.int .i64 n] 156)) (.int .i64 0) (.int .i64 0) (.int .i64 0) (.string ByteArray.empty) 98).below hb2
 rw [World.size_alloc] at hr2
 have HR2:=hid hr2
 have HB2:=hid ((hb0 (.cells #[.iface 198 (.agg #[v0,v1]),.int .i64 frm,.int .i64 size,.int .i64 n] 156) (.cells #[.int .i64 0,.int .i64 0,.int .i64 0,.string ByteArray.empty] 98)).trans (hb2.mono (by simp<;>omega)))
 clear hb2 hmc hr2
 go_wp2_with (first
   | (with_reducible refine at_store 193 _ _ rfl ?_;refine wpList_store_cells rfl 193 _ _ rfl (x.map (Value.int .u8)) (ints_one x) rfl rfl _ _ (by rw [List.length_map,hxl];kernel_rfl) HI64.out ?_;intro wx hrow hbx hsx;have hcv:=hrow.text (P:=Tryz.prog) x 0 64 64 hxl (fun i hi=>by simp [List.getD,show i<x.length by omega]) 158 5 9 Tryz.underlying158 Tryz.underlying5 Tryz.underlying9;rw [<-HSX.out] at hcv;have hcvd:=hrow.drew.text (P:=Tryz.prog) x 0 64 64 hxl (fun i hi=>by simp [List.getD,show i<x.length by omega]) 158 5 9 Tryz.underlying158 Tryz.underlying5 Tryz.underlying9;rw [<-HSX.out] at hcvd;have HRX:=hid (HR2.out.below hbx);have HQX:=hid (HQ2.out.below hbx);have HBX:=hid (HB2.out.trans (hbx.mono HB2.out.size));clear hbx hsx hrow)
   | fail)
 have r0:=HRX.out.c0
 have r1:=HRX.out.c1
 have r2:=HRX.out.c2
 have r3:=HRX.out.c3
 have f0:=HRX.out.f0
 have f1:=HRX.out.f1
 have f2:=HRX.out.f2
 have f3:=HRX.out.f3
 have q3:=HQX.out.c3
 have hcv':(convert 158 9 (.slice (some ⟨w2.heap.size,0,none⟩) 64 64)).run Tryz.prog wx.drew=.ok (.string sx) wx.drew:=hcvd
 go_region_with (first | (go_at_call 152;refine (HRP.out _ (HBX.out.drew)).mono ?_;rintro e w3 ⟨rfl,hb3⟩;have hr3:=HRX.out.drew.below hb3;have HB3:=hid (HBX.out.drew.trans (hb3.mono HBX.out.drew.size));have c0:=hr3.c0;have c1:=hr3.c1;have c2:=hr3.c2;have c3:=hr3.c3;have f0:=hr3.f0;have f1:=hr3.f1;have f2:=hr3.f2;have f3:=hr3.f3;clear hb3 hr3))
 all_goals
  go_wp2
  refine bodyPost_ret (v:=.tuple #[pageV k l q p,.bool b]) (by simp [results,Tryz.results137,go_sem,c0,c1,c2,c3]) rfl ⟨rfl,?_⟩
  exact (((HB3.out.setCell (by show _<=w.heap.size+1;omega) _).setCell (by show _<=w.heap.size+1;omega) _).setCell (by show _<=w.heap.size+1;omega) _).setCell (by show _<=w.heap.size+1;omega) _
end Go.Proofs.YtcoegjnjjdndjaaGreatDoor
namespace Go.Proofs.YtcoegjnjjdndjaaGreatDoor
open Go.RowKit
set_option maxHeartbeats 16000000 in
theorem goes_i (wk wl wm:Int) (wp:ByteArray) (k l m:Int) (p:ByteArray) (w:World):Calls Tryz.prog 107 #[pageV wk wl wm wp,pageV k l m p] w fun e w'=>e=.returned (.bool (goesP wk wl k l))/\Below w.heap.size w w':=by
 have hb2:∀ o1 o2,Below w.heap.size w ((w.alloc o1).alloc o2):=fun o1 o2=>((Below.refl _ _).alloc (Nat.le_refl _) _).alloc (by simp) _
 rw [<-goes_eq]
 obtain ⟨B,hB⟩:∃ B,goesI wk wl k l=B:=⟨_,rfl⟩
 have HB:=hid hB
 rw [hB]
 clear hB
 by_cases h12:k=1\/k=2
 ·by_cases hl:l=wl
  ·have e:B=true:=by rw [<-HB.out];unfold goesI;rw [if_pos h12];simp [hl]
   subst e
   subst hl
   clear HB
   rcases h12 with rfl | rfl<;>(go_enter Tryz.func107,Tryz.ntmps107;go_wp2;all_goals (go_ret;exact ⟨rfl,hb2 _ _⟩))
  ·have hlb:(l == wl)=false:=by simp [hl]
   by_cases hw:wk=1
   ·subst hw
    have e:B=false:=by rw [<-HB.out];unfold goesI;rw [if_pos h12];simp [hl]
    subst e
    clear HB
    rcases h12 with rfl | rfl<;>(go_enter Tryz.func107,Tryz.ntmps107;go_wp2;all_goals (go_ret;exact ⟨rfl,hb2 _ _⟩))
   ·have hwb:(wk == 1)=false:=by simp [hw]
    by_cases hlt:wl<l
    ·have e:B=true:=by rw [<-HB.out];unfold goesI;rw [if_pos h12];simp [hw,hlt]
     subst e
     clear HB
     rcases h12 with rfl | rfl<;>(go_enter Tryz.func107,Tryz.ntmps107;go_wp2;all_goals (go_ret;exact ⟨by simp [hlt],hb2 _ _⟩))
    ·have e:B=false:=by rw [<-HB.out];unfold goesI;rw [if_pos h12];simp [hw,hlt,hl]
     subst e
     clear HB
     rcases h12 with rfl | rfl<;>(go_enter Tryz.func107,Tryz.ntmps107;go_wp2;all_goals (go_ret;exact ⟨by simp [hlt],hb2 _ _⟩))
 ·have hk1:¬ k=1:=fun e=>h12 (.inl e)
  have hk2:¬ k=2:=fun e=>h12 (.inr e)
  have hk1b:(k == 1)=false:=by simp [hk1]
  have hk2b:(k == 2)=false:=by simp [hk2]
  by_cases h3:k=3
  ·subst h3
   by_cases hle:wl<=l
   ·by_cases hw:wk=1
    ·subst hw
     have e:B=false:=by rw [<-HB.out];unfold goesI;simp
     subst e
     clear HB h12
     go_enter Tryz.func107,Tryz.ntmps107
     go_wp2
     all_goals (go_ret;exact ⟨rfl,hb2 _ _⟩)
    ·have hwb:(wk == 1)=false:=by simp [hw]
     have e:B=true:=by rw [<-HB.out];unfold goesI;simp [hw,hle]
     subst e
     clear HB h12
     go_enter Tryz.func107,Tryz.ntmps107
     go_wp2
     all_goals (go_ret;exact ⟨rfl,hb2 _ _⟩)
   ·have e:B=false:=by rw [<-HB.out];unfold goesI;simp [hle]
    subst e
    clear HB h12
    go_enter Tryz.func107,Tryz.ntmps107
    go_wp2
    all_goals (go_ret;exact ⟨rfl,hb2 _ _⟩)
  ·have hk3b:(k == 3)=false:=by simp [h3]
   have e:B=false:=by rw [<-HB.out];unfold goesI;rw [if_neg h12,if_neg h3]
   subst e
   clear HB h12
   go_enter Tryz.func107,Tryz.ntmps107
   go_wp2
   all_goals (go_ret;exact ⟨rfl,hb2 _ _⟩)
theorem there_i (n:Nat) (f s:Int) (hn:n<=1048576) (hf0:-9223372036854775808<=f) (hf1:f<=9223372036854775807) (w:World):Calls Tryz.prog 105 #[.int .i64 (n:Int),.int .i64 f,.int .i64 s] w fun e w'=>e=.returned (.bool (decide (0<=f/\0<=s/\s<=(n:Int)-f)))/\w'=w:=by
 by_cases h1:0<=f
 ·have hw:IntKind.i64.wrap ((n:Int)-f)=(n:Int)-f:=by simp [IntKind.wrap,IntKind.bits,IntKind.signed];omega
  by_cases h2:0<=s
  ·by_cases h3:s<=(n:Int)-f
   ·have e:decide (0<=f/\0<=s/\s<=(n:Int)-f)=true:=decide_eq_true ⟨h1,h2,h3⟩
    rw [e]
    go_enter Tryz.func105,Tryz.ntmps105
    go_wp2
    go_ret
    exact ⟨by simp [h3],rfl⟩
   ·have e:decide (0<=f/\0<=s/\s<=(n:Int)-f)=false:=decide_eq_false (fun h=>h3 h.2.2)
    rw [e]
    go_enter Tryz.func105,Tryz.ntmps105
    go_wp2
    go_ret
    exact ⟨by simp [h3],rfl⟩
  ·have e:decide (0<=f/\0<=s/\s<=(n:Int)-f)=false:=decide_eq_false (fun h=>h2 h.2.1)
   rw [e]
   go_enter Tryz.func105,Tryz.ntmps105
   go_wp2
   go_ret
   exact ⟨rfl,rfl⟩
 ·have e:decide (0<=f/\0<=s/\s<=(n:Int)-f)=false:=decide_eq_false (fun h=>h1 h.1)
  rw [e]
  go_enter Tryz.func105,Tryz.ntmps105
  go_wp2
  go_ret
  exact ⟨rfl,rfl⟩
end Go.Proofs.YtcoegjnjjdndjaaGreatDoor
namespace Go.Proofs.YtcoegjnjjdndjaaGreatDoor
open Go.RowKit Go.Shelf
attribute [local go_sem] Oper.semAt_some
theorem ba_cat (a b:ByteArray):(a++b).data.toList=a.data.toList++b.data.toList:=by rw [ByteArray.data_append,Array.toList_append]
theorem ba_len (a:ByteArray):(Lib.byteCells a.data.toList).length=a.size:=by rw [Lib.byteCells_length];exact Array.length_toList
theorem ba_arr (a:ByteArray):(⟨a.data.toList.toArray⟩:ByteArray)=a:=by rw [Array.toArray_toList]
theorem owns_low {w:World} {b0 b1:Nat} {e:TypeId} {s:Nat} {v:Value} {n:Nat} {xs:List Value} (h:w.ownsRow b1 e s v n xs) (hb:b0<=b1):w.ownsRow b0 e s v n xs:=by
 refine ⟨h.1,?_⟩
 rcases h.2 with h1 | ⟨g,cap,cur,hv,hbg,hr⟩
 ·exact .inl h1
 ·exact .inr ⟨g,cap,cur,hv,by omega,hr⟩
theorem own_slice {w2:World} {g:Nat} {vv:Value} {ws:List (Int×ByteArray)} (hown:w2.ownsRow (g+1) 196 65 vv ws.length (hcells (hsOf ws))):∃ a2 c2,vv=.slice a2 (hsOf ws).length c2/\OwnS w2 a2 (hcells (hsOf ws)):=by
 rw [hsOf_length]
 rcases owns_forms hown with ⟨e,h0⟩ | ⟨g2,cap,e,h1,h2,hr⟩
 ·have:ws=[]:=List.eq_nil_of_length_eq_zero h0
  subst this
  exact ⟨none,0,e,.inl rfl⟩
 ·exact ⟨_,cap,e,.inr ⟨g2,rfl,hr⟩⟩
set_option maxHeartbeats 32000000 in
theorem scan_i_yes (a:Option Addr) (ss:List ByteArray) (c:Nat) (a':Option Addr) (ws:List (Int×ByteArray)) (c':Nat) (frm size first life n:Int) (w:World) (h:Strs w a ss) (h':Wrs w a' ws) (hl:ss.length<=1048576) (hl':ws.length<=1048576) (hs:∀ s∈ss,s.size<=1048576) (hs':∀ x∈ws,x.2.size<=1048576) (hfi:-9223372036854775808<=first/\first<=9223372036854775807)
  (ty:TypeId) (v:Value) (hv:w.cell? ⟨1,0,none⟩=some (.iface ty v)) (h0:w.cell? ⟨0,0,none⟩=some (.iface 253 (.agg #[.pointer (some ⟨3,165,none⟩)]))) (hg:1<w.heap.size) (hyes:scOk ss ws frm size n) :
  Calls Tryz.prog 63 #[diskV a ss.length c a' ws.length c',.int .i64 frm,.int .i64 size,.int .i64 first,.int .i64 life,.int .i64 n] w fun e w'=>ScPost w w' e (scD ss ws frm size first life n):=by
 have hres:scD ss ws frm size first life n=scanP (fun k=>(syncs ws ss).getD k ByteArray.empty) frm.toNat first n size.toNat 0 2 life ByteArray.empty ([],0,life):=by unfold scD;rw [if_pos hyes,scanP_begin]
 rw [hres]
 clear hres
 obtain ⟨hok,hn,f0,s0,f1,s1⟩:=hyes
 obtain ⟨fm,rfl⟩:∃ k:Nat,frm=(k:Int):=⟨frm.toNat,by omega⟩
 obtain ⟨N,rfl⟩:∃ k:Nat,size=(k:Int):=⟨size.toNat,by omega⟩
 simp only [Int.toNat_natCast]
 have hd:decide (1<=n/\n<=8)=true:=decide_eq_true hn
 obtain ⟨⟨hn1,hn2,hn3⟩,h64,hw⟩:=diskOk_of hok
 obtain ⟨SF,e_SF⟩:∃ SF:Nat->ByteArray,SF=fun k=>(syncs ws ss).getD k ByteArray.empty:=⟨_,rfl⟩
 rw [<-e_SF]
 have HSF:=hid e_SF
 obtain ⟨RES,HRES⟩:∃ RES,Hid (RES=scanP SF fm first n N 0 2 life ByteArray.empty ([],0,life)):=⟨_,hid rfl⟩
 rw [<-HRES.out]
 clear e_SF
 have hN200:N<=200:=by omega
 have HTH:Hid (∀ wx,Calls Tryz.prog 105 #[.int .i64 (ss.length:Int),.int .i64 (fm:Int),.int .i64 (N:Int)] wx fun e w'=>e=.returned (.bool true)/\w'=wx):=fun wx=>by
  have:=there_i ss.length (fm:Int) (N:Int) hl (by omega) (by omega) wx
  rw [decide_eq_true (show 0<=(fm:Int)/\0<=(N:Int)/\(N:Int)<=(ss.length:Int)-(fm:Int) by omega)] at this
  exact this
 have HV:=hid (fun (wx:World) (hb:Below w.heap.size w wx)=>valid_i a ss c a' ws c' wx (h.below hb) (h'.below hb) hl hl' hs hs')
 rw [hok] at HV
 have HDR:=hid (fun (wx:World) (hb:Below w.heap.size w wx)=>drv_i a ss c a' ws c' wx (h.below hb) (h'.below hb) hn2 hn3 (fun s hs=>by have:=h64 s hs;omega) (fun x hx=>by have:=of_decide_eq_true (hw x hx);omega))
 have HW8:=hid (fun wx=>width_i n wx)
 rw [hd] at HW8
 have hb0:∀ o1 o2 o3,Below w.heap.size w (((w.alloc o1).alloc o2).alloc o3):=fun o1 o2 o3=>(((Below.refl _ _).alloc (Nat.le_refl _) _).alloc (by simp) _).alloc (by simp;omega) _
 have HB0:=hid hb0
 have HH:=hid h
 have HH':=hid h'
 have HWS:=hid hw
 have H64:=hid h64
 have HGV:=hid (fun wx (hb:Below w.heap.size w wx)=>((hb.cell (p:=⟨1,0,none⟩) hg).trans hv))
 have HG0:=hid (fun wx (hb:Below w.heap.size w wx)=>((hb.cell (p:=⟨0,0,none⟩) (by show 0<_;omega)).trans h0))
 clear h h' hw h64 hv h0 hs hs' hb0 hok hd
 refine (callsIn_wide (n:=4)).1 ?_
 refine callsIn_of_wp_marks Tryz.func63 rfl trivial ?_ rfl
 simp only [Tryz.ntmps63,List.size_toArray,List.length_cons,List.length_nil,Nat.reduceAdd,Nat.reduceSub,Array.replicate_succ,Array.replicate_zero,List.push_toArray,List.append_toArray,List.nil_append,List.cons_append]
 gi_wp2
 refine wpIn_wide.2 (wp_scope_straight ((wpIn_wide (n:=4)).1 ?_))
 gi_wp2_with (first
  | (refine ⟨trivial,?_⟩;gi_at_call 58;refine (callsIn_wide.2 (HV.out _ (HB0.out _ _ _))).mono ?_;rintro e w1 ⟨rfl,hb1⟩;have r6:=(((row_new' w #[.slice a ss.length c,.slice a' ws.length c'] 44 w.heap.size rfl).alloc (.cells #[.int .i64 first] 3)).alloc (.cells #[.slice none 0 0,.int .i64 0,.int .i64 0] 90)).below hb1;have r7:=((row_new' (w.alloc (.cells #[.slice a ss.length c,.slice a' ws.length c'] 44)) #[.int .i64 first] 3 (w.heap.size+1) (by simp)).alloc (.cells #[.slice none 0 0,.int .i64 0,.int .i64 0] 90)).below hb1;have r8:=(row_new' ((w.alloc (.cells #[.slice a ss.length c,.slice a' ws.length c'] 44)).alloc (.cells #[.int .i64 first] 3)) #[.slice none 0 0,.int .i64 0,.int .i64 0] 90 (w.heap.size+1+1) (by simp)).below hb1;have be1:=(HB0.out (.cells #[.slice a ss.length c,.slice a' ws.length c'] 44) (.cells #[.int .i64 first] 3) (.cells #[.slice none 0 0,.int .i64 0,.int .i64 0] 90)).trans (hb1.mono (by simp<;>omega));have HR7:=hid r7;have HR8:=hid r8;have HBE1:=hid be1;have q0:=r6.cell 0 _ rfl;have q1:=r6.cell 1 _ rfl;have ql:=r6.lt;clear r6 r7 r8 be1 hb1)
  | (refine ⟨trivial,?_⟩;gi_at_call 57;refine (callsIn_wide.2 (HW8.out _)).mono ?_;rintro e wz ⟨rfl,hwz⟩;rw [hwz];clear hwz wz)
  | (refine ⟨trivial,?_⟩;gi_at_call 105;refine (callsIn_wide.2 (HTH.out _)).mono ?_;rintro e wz ⟨rfl,hwz⟩;rw [hwz];clear hwz wz)
  | (refine ⟨trivial,?_⟩;gi_at_call 102;refine (callsIn_wide.2 (HDR.out _ HBE1.out)).mono ?_;rintro e w2 ⟨g,vv,rfl,hpr,hown,hgw,hb2⟩;clear q0 q1 ql;obtain ⟨a2,c2,hvv,ho2⟩:∃ a2 c2,vv=.slice a2 (hsOf ws).length c2/\OwnS w2 a2 (hcells (hsOf ws)):=own_slice hown;subst hvv;have HBE2:=hid (Below.then HBE1.out (Nat.le_refl _) hb2);have HR72:=hid (HR7.out.below hb2);have HR82:=hid (HR8.out.below hb2);have HPR2:=hid hpr;have HOS2:=hid ho2;clear hb2 hpr hown ho2 hgw)
  | (refine ⟨trivial,?_⟩;gi_at_call 103;refine (callsIn_wide.2 (rdr _ _ _ _ _ _ _)).mono ?_;rintro e w3 ⟨rfl,hb3⟩;have HBE3:=hid (Below.then HBE2.out (Nat.le_refl _) hb3);have HR73:=hid (HR72.out.below hb3);have HR83:=hid (HR82.out.below hb3);have HPR:=hid (HPR2.out.below hb3);have HOS:=hid (HOS2.out.below hb3);clear hb3))
 have hbw3:w.heap.size<=w3.heap.size:=HBE3.out.size
 have hlr8:=HR83.out.lt
 have hh64:∀ p∈hsOf ws,p.2.length=64:=fun p hp=>by
  obtain ⟨x,hx,rfl⟩:=List.mem_map.1 hp
  have:=of_decide_eq_true (HWS.out x hx)
  show (nums x.2).length=64
  rw [nums_length];omega
 have hhld:Hld w3 a2 (hsOf ws):=by
  rcases HOS.out with h0 | ⟨g2,rfl,h2⟩
  ·refine .inl (List.eq_nil_of_length_eq_zero ?_)
   have:=congrArg List.length h0
   rw [hcells_length _ hh64,List.length_nil] at this;omega
  ·exact h2.hld hh64
 have HPG:Hid (∀ wx,Below w3.heap.size w3 wx->∀ m:Nat,m<N->Calls Tryz.prog 137 #[regV (.slice a2 (hsOf ws).length c2) (.iface 148 (.slice (some ⟨g,0,none⟩) ss.length ss.length)) (fm:Int) (N:Int) n,.int .i64 (m:Int)] wx fun e w'=>e=.returned (rpV (rpRes (SF (fm+m)) n))/\Below wx.heap.size wx w'):=fun wx hb m hm=>by
  have hlt:fm+m<ss.length:=by omega
  have hrl:fm+m<(covs (hsOf ws) (ss.map nums)).length:=by rw [covs_length];simp;omega
  have hX:strOfNums ((covs (hsOf ws) (ss.map nums)).getD (fm+m) [])=SF (fm+m):=by
   rw [HSF.out,<-secs_covs]
   simp [secs,List.getD,hrl]
  have hbx:Below w.heap.size w wx:=HBE3.out.trans (hb.mono hbw3)
  rw [<-hX]
  refine rpage_i _ _ _ _ _ _ _ wx (getD_len (covs_all _ _ hh64 HPR.out.len) hrl) (by simp [IntKind.wrap,IntKind.bits,IntKind.signed];omega) (fun wy hy=>?_) ty v (HGV.out _ hbx) (HG0.out _ hbx) (by have:=hbx.size;omega)
  have hb2:=hb.trans (hy.mono hb.size)
  have:=rd_cover a2 (hsOf ws) c2 g ss.length ss.length (fm+m) (ss.map nums) wy (hhld.below hb2) hh64 (fun p hp=>by obtain ⟨y,hy,rfl⟩:=List.mem_map.1 hp;exact (of_decide_eq_true (HWS.out y hy)).1) (by rw [hsOf_length];exact hn3) (HPR.out.below hb2) (by simp) hn2 hlt
  rw [show ((fm:Int)+(m:Int))=((fm+m:Nat):Int) by omega]
  exact this
 obtain ⟨cv,HCV⟩:∃ cv,Hid (cv=Value.iface 148 (.slice (some ⟨g,0,none⟩) ss.length ss.length)):=⟨_,hid rfl⟩
 obtain ⟨v0,HV0⟩:∃ v0,Hid (v0=Value.slice a2 (hsOf ws).length c2):=⟨_,hid rfl⟩
 rw [<-HCV.out,<-HV0.out] at HPG ⊢
 have D0:Hid (ScL w3 (((w3.alloc (.cells #[.iface 198 (.agg #[v0,cv]),.int .i64 (fm:Int),.int .i64 (N:Int),.int .i64 n] 156)).alloc (.cells #[.slice none 0 0,.int .i64 0,.int .i64 life] 90)).alloc (.cells #[.int .i64 2,.int .i64 life,.int .i64 0,.string ⟨#[]⟩] 98)) [] (((w3.alloc (.cells #[.iface 198 (.agg #[v0,cv]),.int .i64 (fm:Int),.int .i64 (N:Int),.int .i64 n] 156)).alloc (.cells #[.slice none 0 0,.int .i64 0,.int .i64 life] 90)).alloc (.cells #[.int .i64 2,.int .i64 life,.int .i64 0,.string ⟨#[]⟩] 98)).heap.size (.iface 198 (.agg #[v0,cv])) (.int .i64 (fm:Int)) (.int .i64 (N:Int)) (.int .i64 n) (.slice none 0 0) [] 0 life 2 life 0 ⟨#[]⟩):=by
  refine ⟨((row_new' _ _ _ _ rfl).alloc _).alloc _,(row_new' _ _ _ _ (by simp)).alloc _,row_new' _ _ _ _ (by simp),World.ownsRow_nil _ _ _ _,fun k hk=>(by cases hk),(((Below.refl _ _).alloc (Nat.le_refl _) _).alloc (by simp) _).alloc (by simp;omega) _,fun r hr=>(by cases hr),List.nodup_nil⟩
 clear HDR HV HW8 HTH HB0 HR7 HR8 HBE1 HR72 HR82 HBE2 HPR2 HOS2 HOS hhld hh64 HH HH' HWS H64 HGV HG0
 refine wpIn_label ?_
 gi_wp2
 refine wpIn_loop_ghost (fun k A W=>∃ (Rs:List Nat) (y:Value) (ents:List ByteArray) (u:Nat) (l wk wl wm:Int) (wp:ByteArray) (s16 s48 s49 s50 s51 s52 s53 s54 s55:Value),A={ tmps:=#[diskV a ss.length c a' ws.length c',.int .i64 (fm:Int),.int .i64 (N:Int),.int .i64 first,.int .i64 life,.int .i64 n,.pointer (some ⟨w.heap.size,0,none⟩),undef,undef,.pointer (some ⟨w.heap.size+1,0,none⟩),undef,undef,.pointer (some ⟨w.heap.size+1+1,0,none⟩),.pointer (some ⟨w3.heap.size,0,none⟩),.pointer (some ⟨w3.heap.size+1,0,none⟩),.pointer (some ⟨w3.heap.size+1+1,0,none⟩),s16,undef,undef,.agg #[.slice a ss.length c,.slice a' ws.length c'],.bool true,.bool false,.bool false,.int .i64 n,.bool true,.bool false,.bool false,.bool false,.pointer (some ⟨w.heap.size,0,none⟩),.slice a ss.length c,.int .i64 (ss.length:Int),.int .i64 (fm:Int),.int .i64 (N:Int),.bool true,.bool false,.bool false,undef,.agg #[.slice a ss.length c,.slice a' ws.length c'],.agg #[.slice (some ⟨g,0,none⟩) ss.length ss.length,v0],(.iface 198 (.agg #[v0,cv])),.int .i64 (fm:Int),.int .i64 (N:Int),.int .i64 n,.agg #[.iface 198 (.agg #[v0,cv]),.int .i64 (fm:Int),.int .i64 (N:Int),.int .i64 n],.int .i64 life,.agg #[.slice none 0 0,.int .i64 0,.int .i64 life],.int .i64 life,.agg #[.int .i64 2,.int .i64 life,.int .i64 0,.string ⟨#[]⟩],s48,s49,s50,s51,s52,s53,s54,s55,undef,undef,undef,undef,undef,undef,undef,undef,undef,undef,undef,undef,undef,undef,undef,undef,undef,undef,undef,undef,undef,undef,undef,undef,undef,undef],defers:=Rs.map (fun r=>({ target:=.collected r,args:=#[] }:Deferred)) }/\k=N-u/\u<=N/\ents.length<=u/\Hid (ScL w3 W Rs W.heap.size (.iface 198 (.agg #[v0,cv])) (.int .i64 (fm:Int)) (.int .i64 (N:Int)) (.int .i64 n) y ents (u:Int) l wk wl wm wp)/\Hid (Chn (S:=SF) (frm:=fm) (n:=n) (size:=N) first RES u [] wk wl ByteArray.empty (ents,(u:Int),l))) N ⟨[],.slice none 0 0,[],0,life,2,life,0,⟨#[]⟩,undef,undef,undef,undef,undef,undef,undef,undef,undef,rfl,by omega,Nat.zero_le _,Nat.le_refl _,D0,?_⟩ ?_
 ·intro _
  refine ⟨Nat.zero_le _,?_⟩
  rw [HRES.out]
  rfl
 ·rintro k _ W ⟨Rs,y,ents,u,l,wk,wl,wm,wp,s16,s48,s49,s50,s51,s52,s53,s54,s55,rfl,rfl,huN,hel,HSL,HCH⟩
  clear D0
  have hf1:W.cell? ⟨w3.heap.size+1,1,none⟩=some (.int .i64 (u:Int)):=HSL.out.fb.cell 1 _ rfl
  have hfl:=HSL.out.fb.lt
  by_cases hlt:u<N
  ·have hlt':(u:Int)<(N:Int):=by omega
   have lb0:W.cell? ⟨w3.heap.size,0,none⟩=some (.iface 198 (.agg #[v0,cv])):=HSL.out.lb.cell 0 _ rfl
   have lb1:W.cell? ⟨w3.heap.size,1,none⟩=some (.int .i64 (fm:Int)):=HSL.out.lb.cell 1 _ rfl
   have lb2:W.cell? ⟨w3.heap.size,2,none⟩=some (.int .i64 (N:Int)):=HSL.out.lb.cell 2 _ rfl
   have lb3:W.cell? ⟨w3.heap.size,3,none⟩=some (.int .i64 n):=HSL.out.lb.cell 3 _ rfl
   have lbl:=HSL.out.lb.lt
   gi_wp2_with (refine ⟨trivial,?_⟩;gi_at_call 106;refine (pages_in _ _ _ _ _ _ _ _).mono ?_;rintro e w4 ⟨rfl,rfl⟩)
   clear hf1 lb0 lb1 lb2 lb3
   have hlo:w3.heap.size+2<W.heap.size:=HSL.out.bb.lt
   obtain ⟨WS,hWS⟩:∃ WS,WS=((W.alloc (.cells #[.pointer none,.slice none 0 0] 160)).alloc (.cells #[.iface 198 (.agg #[v0,cv]),.int .i64 (fm:Int),.int .i64 (N:Int),.int .i64 n] 156)).alloc (.cells #[.int .i64 (u:Int)] 3):=⟨_,rfl⟩
   have hWb:Below W.heap.size W WS:=by rw [hWS];exact (((Below.refl _ _).alloc (Nat.le_refl _) _).alloc (by simp) _).alloc (by simp;omega) _
   have hWs:WS.heap.size=W.heap.size+3:=by rw [hWS];simp
   have NS:ScN w3 WS Rs W.heap.size (.iface 198 (.agg #[v0,cv])) (.int .i64 (fm:Int)) (.int .i64 (N:Int)) (.int .i64 n) y ents (u:Int) l wk wl wm wp ByteArray.empty:=by
    have e1:=heap_alloc_new W (.cells #[.pointer none,.slice none 0 0] 160)
    have e2:=heap_alloc_new (W.alloc (.cells #[.pointer none,.slice none 0 0] 160)) (.cells #[.iface 198 (.agg #[v0,cv]),.int .i64 (fm:Int),.int .i64 (N:Int),.int .i64 n] 156)
    have e3:=heap_alloc_new ((W.alloc (.cells #[.pointer none,.slice none 0 0] 160)).alloc (.cells #[.iface 198 (.agg #[v0,cv]),.int .i64 (fm:Int),.int .i64 (N:Int),.int .i64 n] 156)) (.cells #[.int .i64 (u:Int)] 3)
    simp only [World.size_alloc] at e2 e3
    refine ⟨HSL.out.below hWb,.inl ⟨Nat.le_refl _,.slice none 0 0,?_,World.ownsRowF_nil _ _ _ _,by simp [Value.ownBlock]⟩,?_,?_,fun k e=>(HSL.out.own.lt k e).2,hlo⟩
    ·rw [hWS,heap_alloc_old _ _ (by simp;omega),heap_alloc_old _ _ (by simp)];exact e1
    ·rw [hWS,heap_alloc_old _ _ (by simp)];exact e2
    ·rw [hWS];exact e3
   rw [<-hWS]
   have HWB:=hid hWb
   have HNS:=hid NS
   clear hWS hWb NS
   refine wpIn_rangeFunc_ownH rfl (by omega) (gf:=136) (lb:=#[.pointer (some ⟨W.heap.size+1+1,0,none⟩),.pointer (some ⟨W.heap.size+1,0,none⟩)]) rfl trivial (enters_of Tryz.func136 (by kernel_rfl) rfl)
    (pages_stops 3 (by omega) (W.heap.size+1) (W.heap.size+1+1) fm N u SF n v0 cv w3 WS hN200 (by omega) HNS.out.sl.be HPG HNS.out.g1 HNS.out.g2)
    KpP.t (KpP.b (by omega) (by omega) (by omega)) (Below.refl _ _) (fun _=>rfl)
    (fun pre X=>InS first RES w3 Rs W.heap.size (.iface 198 (.agg #[v0,cv])) (.int .i64 (fm:Int)) (.int .i64 (N:Int)) (.int .i64 n) y ents u l pre X)
    (fun cc pre X=>InX first RES w3 Rs W.heap.size (.iface 198 (.agg #[v0,cv])) (.int .i64 (fm:Int)) (.int .i64 (N:Int)) (.int .i64 n) y ents u l cc pre X)
    (InS.own _ (by omega)) (fun cc=>InX.own _ (by omega) (by omega) cc)
    ⟨wk,wl,wm,wp,ByteArray.empty,HNS.out,Nat.zero_le _,HCH.out⟩
    (fun x A' X=>∃ P,X.heap[P]?=some (.cells #[.int .i64 (pgAt SF fm n x.1).1,.int .i64 (pgAt SF fm n x.1).2.1,.int .i64 (pgAt SF fm n x.1).2.2.1,.string (pgAt SF fm n x.1).2.2.2] 98 (0,0))/\W.heap.size+2<P/\A'={ tmps:=#[diskV a ss.length c a' ws.length c',.int .i64 (fm:Int),.int .i64 (N:Int),.int .i64 first,.int .i64 life,.int .i64 n,.pointer (some ⟨w.heap.size,0,none⟩),undef,undef,.pointer (some ⟨w.heap.size+1,0,none⟩),undef,undef,.pointer (some ⟨w.heap.size+1+1,0,none⟩),.pointer (some ⟨w3.heap.size,0,none⟩),.pointer (some ⟨w3.heap.size+1,0,none⟩),.pointer (some ⟨w3.heap.size+1+1,0,none⟩),.pointer (some ⟨W.heap.size,0,none⟩),.int .i64 (x.1:Int),.pointer (some ⟨P,0,none⟩),.agg #[.slice a ss.length c,.slice a' ws.length c'],.bool true,.bool false,.bool false,.int .i64 n,.bool true,.bool false,.bool false,.bool false,.pointer (some ⟨w.heap.size,0,none⟩),.slice a ss.length c,.int .i64 (ss.length:Int),.int .i64 (fm:Int),.int .i64 (N:Int),.bool true,.bool false,.bool false,undef,.agg #[.slice a ss.length c,.slice a' ws.length c'],.agg #[.slice (some ⟨g,0,none⟩) ss.length ss.length,v0],(.iface 198 (.agg #[v0,cv])),.int .i64 (fm:Int),.int .i64 (N:Int),.int .i64 n,.agg #[.iface 198 (.agg #[v0,cv]),.int .i64 (fm:Int),.int .i64 (N:Int),.int .i64 n],.int .i64 life,.agg #[.slice none 0 0,.int .i64 0,.int .i64 life],.int .i64 life,.agg #[.int .i64 2,.int .i64 life,.int .i64 0,.string ⟨#[]⟩],.pointer (some ⟨w3.heap.size+1,1,none⟩),.int .i64 (u:Int),.int .i64 (N:Int),.bool true,.agg #[.iface 198 (.agg #[v0,cv]),.int .i64 (fm:Int),.int .i64 (N:Int),.int .i64 n],.pointer (some ⟨w3.heap.size+1,1,none⟩),.int .i64 (u:Int),.func (.func 136) #[] #[.pointer (some ⟨W.heap.size+1+1,0,none⟩),.pointer (some ⟨W.heap.size+1,0,none⟩)],.int .i64 (x.1:Int),pgV (pgAt SF fm n x.1),undef,undef,undef,undef,undef,undef,undef,undef,undef,undef,undef,undef,undef,undef,undef,undef,undef,undef,undef,undef,undef,undef,undef,undef],defers:=[] }) ?hax ?assign ?body ?done ?stop
   case hax =>
    rintro x a' s X Y row ⟨P,hP,hb,ha⟩ hg hr
    refine ⟨P,(hg.block P (Array.getElem?_eq_some_iff.1 hP).1 (fun e=>?_)).trans hP,hb,ha⟩
    obtain ⟨_,o,ho,hc⟩:=hr P e.symm
    rw [hP] at ho;cases ho;cases hc
   case assign =>
    intro lp pre x X K hI hK
    have hsX:WS.heap.size<=X.heap.size:=by
     obtain ⟨wk,wl,wm,wp,op,hN1,_,_⟩:=hI
     have:=(Array.getElem?_eq_some_iff.1 hN1.g2).1
     omega
    gi_wp2
    have hbl:Below X.heap.size X (X.alloc (.cells #[.int .i64 (pgAt SF fm n x.1).1,.int .i64 (pgAt SF fm n x.1).2.1,.int .i64 (pgAt SF fm n x.1).2.2.1,.string (pgAt SF fm n x.1).2.2.2] 98)):=(Below.refl _ _).alloc (Nat.le_refl _) _
    refine hK _ _ ((keeps_below' hbl).from _) ⟨hbl.mono (by omega),hbl.block _ (by omega),hbl.block _ (by omega)⟩ (InS.own _ (Nat.le_refl _) _ _ _ none hI (below_grown0 hbl) (fun r e=>by cases e)) ⟨X.heap.size,heap_alloc_new _ _,by omega,?_⟩
    rfl
   case body =>
    rintro lp pre x _ X hlp ⟨rr,hrr⟩ ⟨wk,wl,wm,wp,op,hN1,hop,hch⟩ ⟨P,hP,hbP,rfl⟩ hpl
    have hxN:=x.2.1
    obtain ⟨pk,pl,pm,pp,hpx⟩:∃ pk pl pm pp,pgAt SF fm n x.1=(pk,pl,pm,pp):=⟨_,_,_,_,rfl⟩
    have hps:=(rpRes_some (pgAt_some x hpx)).2.2.2.2.2.2
    have HPX:=hid hpx
    rw [hpx] at hP ⊢
    simp only at hP ⊢
    have HCX:=hid (fun hh=>hch.no (x:=x) hpx hfi hh)
    have HCP:=hid (fun (e1:pk=1) hm1 hgo=>hch.part (x:=x) (by rw [hpx,e1]) hfi hm1 hgo)
    have HCE:=hid (fun hm1 hgo hk=>hch.end (x:=x) hpx hfi hm1 hgo hk)
    have HGX:Hid (Good u (pre++[x])->u<=x.1):=fun hg=>by have:=hg.snoc.2;omega
    have hxl:(pre++[x]).length=pre.length+1:=by simp
    obtain ⟨px,hpx2⟩:∃ px,px=pre++[x]:=⟨_,rfl⟩
    rw [<-hpx2] at HCX HCP HCE HGX hxl ⊢
    obtain ⟨xn,hxn⟩:∃ xn,x.1=xn:=⟨_,rfl⟩
    rw [hxn] at HCX HCP HCE HGX hxN ⊢
    clear hpx HPX hpx2 hxn x hch
    obtain ⟨Z,hZ⟩:∃ Z,IntKind.i64.wrap (first+(xn:Int))=Z:=⟨_,rfl⟩
    rw [hZ] at HCX HCP HCE
    have b0:X.cell? ⟨w3.heap.size+1+1,0,none⟩=some (.int .i64 wk):=hN1.sl.bb.cell 0 _ rfl
    have b1:X.cell? ⟨w3.heap.size+1+1,1,none⟩=some (.int .i64 wl):=hN1.sl.bb.cell 1 _ rfl
    have b2:X.cell? ⟨w3.heap.size+1+1,2,none⟩=some (.int .i64 wm):=hN1.sl.bb.cell 2 _ rfl
    have b3:X.cell? ⟨w3.heap.size+1+1,3,none⟩=some (.string wp):=hN1.sl.bb.cell 3 _ rfl
    have bl:w3.heap.size+1+1<X.heap.size:=hN1.sl.bb.lt
    have fr:=(HR73.out.below hN1.sl.be).cell 0 _ rfl
    have frl:=(HR73.out.below hN1.sl.be).lt
    have p0:=heap_cell hP 0 (.int .i64 pk) rfl
    have p1:=heap_cell hP 1 (.int .i64 pl) rfl
    have p2:=heap_cell hP 2 (.int .i64 pm) rfl
    have p3:=heap_cell hP 3 (.string pp) rfl
    have hPl:=(Array.getElem?_eq_some_iff.1 hP).1
    have HN1:=hid hN1
    have HP:=hid hP
    have hXs:W.heap.size+2<X.heap.size:=(Array.getElem?_eq_some_iff.1 hN1.g2).1
    clear hN1 hP hrr
    by_cases hm:pm=Z
    ·subst hm
     have HGO:=hid (fun wx=>goes_i wk wl wm wp pk pl pm pp wx)
     cases hgo:goesP wk wl pk pl with
     | false =>
      rw [hgo] at HGO
      have HF:=hid (HCX.out (by rw [hgo];simp))
      clear HCX HCP HCE hgo
      gi_wp2_with (refine ⟨trivial,?_⟩;gi_at_call 107;refine (show CallsIn Fence.wide _ _ _ _ _ _ from callsIn_wide.2 (HGO.out _)).mono ?_;rintro e w5 ⟨rfl,hb5⟩)
      exact ⟨(keeps_below' hb5).from _,.inl ⟨rfl,⟨wk,wl,wm,wp,HN1.out.sl.below hb5⟩,HF.out⟩⟩
     | true =>
      rw [hgo] at HGO
      have HPART:=hid (fun e1=>HCP.out e1 rfl (by rw [<-e1];exact hgo))
      have HEND:=hid (fun hk=>HCE.out rfl hgo hk)
      clear HCX HCP HCE hgo
      have hnP:¬ (P=w3.heap.size+1+1):=by omega
      have hnP2:¬ (w3.heap.size+1+1=P):=by omega
      have hlb8:(Lib.byteCells op.data.toList).length+pp.size<=140737488355328:=by
       rw [ba_len];omega
      have hcat:=ba_cat op pp
      have hkb:∀ (Y:World) (i:Nat) (v:Value),KeepsOthers Y (Y.setCell ⟨w3.heap.size+1+1,i,none⟩ v):=fun Y i v=>KeepsOthers.setCell _ _ _
      have HCAT:=hid hcat
      clear hcat
      gi_upto_region 14 with (first
       | (refine ⟨trivial,?_⟩;gi_at_call 107;refine (show CallsIn Fence.wide _ _ _ _ _ _ from callsIn_wide.2 (HGO.out _)).mono ?_;rintro e w5 ⟨rfl,hb5⟩;have hN5:=HN1.out.kept (below_grown0 hb5) (fun r e=>by cases e);have hP5:=(hb5.block P hPl).trans HP.out;clear p0 p1 p2 p3 b0 b1 b2 b3;have p0:=heap_cell hP5 0 (.int .i64 pk) rfl;have p1:=heap_cell hP5 1 (.int .i64 pl) rfl;have p2:=heap_cell hP5 2 (.int .i64 pm) rfl;have p3:=heap_cell hP5 3 (.string pp) rfl;have b0:w5.cell? ⟨w3.heap.size+1+1,0,none⟩=some (.int .i64 wk):=hN5.sl.bb.cell 0 _ rfl;have b1:w5.cell? ⟨w3.heap.size+1+1,1,none⟩=some (.int .i64 wl):=hN5.sl.bb.cell 1 _ rfl;have b2:w5.cell? ⟨w3.heap.size+1+1,2,none⟩=some (.int .i64 wm):=hN5.sl.bb.cell 2 _ rfl;have b3:w5.cell? ⟨w3.heap.size+1+1,3,none⟩=some (.string wp):=hN5.sl.bb.cell 3 _ rfl;have f0:w5.frozen? ⟨w3.heap.size+1+1,0,none⟩=false:=hN5.sl.bb.froz 0 (by simp);have f1:w5.frozen? ⟨w3.heap.size+1+1,1,none⟩=false:=hN5.sl.bb.froz 1 (by simp);have f2:w5.frozen? ⟨w3.heap.size+1+1,2,none⟩=false:=hN5.sl.bb.froz 2 (by simp);have f3:w5.frozen? ⟨w3.heap.size+1+1,3,none⟩=false:=hN5.sl.bb.froz 3 (by simp);have l5:=hb5.size;have HN8:=hid (hN5.setWas pk pl pm pp);have HP5:=hid hP5;have HB5:=hid hb5;clear hN5 hP5 hb5)
       | (refine ⟨trivial,?_⟩;gi_at_call 108;refine (show CallsIn Fence.wide _ _ _ _ _ _ from callsIn_wide.2 (b_writek W.heap.size W.heap.size (Lib.byteCells op.data.toList) pp _ HN8.out.bu hlb8 (by simp;omega))).mono ?_;rintro e w9 ⟨rfl,hbu9,hb9,hk9⟩;obtain ⟨ba,hbb⟩:=bu_block HN8.out.bu;have hko:=keeps_others hbb hk9 hb9.size;have hN9:=HN8.out.wrote (op':=op++pp) hb9 hk9 (.inr (by rw [HCAT.out,Lib.byteCells_append];exact hbu9));have hP8:=(hk9 P _ ((Below.heap_setCell _ _ _ _ hnP).trans ((Below.heap_setCell _ _ _ _ hnP).trans ((Below.heap_setCell _ _ _ _ hnP).trans ((Below.heap_setCell _ _ _ _ hnP).trans HP5.out)))) (by intro e;cases e;omega) (by intro cc fz e;simp at e));have HKO:=hid ((keeps_below' HB5.out).trans ((hkb _ _ _).trans ((hkb _ _ _).trans ((hkb _ _ _).trans ((hkb _ _ _).trans hko)))));have HBN:=hid (((((HB5.out.mono (show w3.heap.size<=X.heap.size by omega)).setCell (p:=⟨w3.heap.size+1+1,0,none⟩) (by show w3.heap.size<=w3.heap.size+1+1;omega) (.int .i64 pk)).setCell (p:=⟨w3.heap.size+1+1,1,none⟩) (by show w3.heap.size<=w3.heap.size+1+1;omega) (.int .i64 pl)).setCell (p:=⟨w3.heap.size+1+1,2,none⟩) (by show w3.heap.size<=w3.heap.size+1+1;omega) (.int .i64 pm)).setCell (p:=⟨w3.heap.size+1+1,3,none⟩) (by show w3.heap.size<=w3.heap.size+1+1;omega) (.string pp) |>.trans (hb9.mono (by omega)));have HN9:=hid hN9;have HP9:=hid hP8;have l9:w5.heap.size<=w9.heap.size:=(by have:=hb9.size;simpa using this);clear hbu9 hb9 hk9 hbb hko hN9 hP8 p0 p1 p2 p3 b0 b1 b2 b3 f0 f1 f2 f3))
      have p0:=heap_cell HP9.out 0 (.int .i64 pk) rfl
      have p1:=heap_cell HP9.out 1 (.int .i64 pl) rfl
      have p2:=heap_cell HP9.out 2 (.int .i64 pm) rfl
      have p3:=heap_cell HP9.out 3 (.string pp) rfl
      have hP9:P<w9.heap.size:=by omega
      by_cases hk1:pk=1
      ·have HI:Hid (InS first RES w3 Rs W.heap.size (.iface 198 (.agg #[v0,cv])) (.int .i64 (fm:Int)) (.int .i64 (N:Int)) (.int .i64 n) y ents u l px w9):=⟨pk,pl,pm,pp,op++pp,HN9.out,by rw [ByteArray.size_append,hxl];omega,by have:=HPART.out hk1;rw [hk1];exact this⟩
       have hk1b:(pk != 1)=false:=by simp [hk1]
       clear HPART HEND
       gi_wp2
       exact ⟨HKO.out.from _,⟨HBN.out,HN9.out.g1.trans HN1.out.g1.symm,HN9.out.g2.trans HN1.out.g2.symm⟩,HI.out⟩
      ·have hk1b:(pk != 1)=true:=by simp [hk1]
       have HEND2:=hid (HEND.out hk1)
       have hN9d:=HN9.out.kept (W':=w9.drew) (row:=none) ⟨rfl,rfl,rfl,Nat.le_refl _,fun _ _ _=>rfl⟩ (fun r e=>by cases e)
       have HN9D:=hid hN9d
       have HST:=hid (fun wx hbu hs=>b_stringk W.heap.size W.heap.size (op++pp).data.toList wx hbu hs)
       have hsa:=ba_arr (op++pp)
       rw [hsa] at HST
       clear hsa hN9d HPART HEND hk1
       gi_upto_region 15 with fail
       gi_region_with (first
        | (refine ⟨trivial,?_⟩;gi_at_call 110;refine (show CallsIn Fence.wide _ _ _ _ _ _ from callsIn_wide.2 (HST.out _ HN9D.out.bu (by simp;omega))).mono ?_;rintro e w10 ⟨rfl,hbu10,hb10,hk10⟩;obtain ⟨ba,hbb⟩:=bu_block HN9D.out.bu;have hko:=keeps_others hbb hk10 hb10.size;have HKT:=hid (HKO.out.trans (⟨hko.size,hko.same⟩:KeepsOthers w9 w10));have hN10:=HN9D.out.wrote (op':=op++pp) hb10 hk10 hbu10;have hP10:=hk10 P _ (show w9.drew.heap[P]?=_ from HP9.out) (by intro e;cases e;omega) (by intro cc fz e;simp at e);have r0:=heap_cell hP10 0 (.int .i64 pk) rfl;have r1:=heap_cell hP10 1 (.int .i64 pl) rfl;have r2:=heap_cell hP10 2 (.int .i64 pm) rfl;have r3:=heap_cell hP10 3 (.string pp) rfl;have l10:w9.heap.size<=w10.heap.size:=hb10.size;have HN10:=hid hN10;have HP10:=hid hP10;clear hbu10 hb10 hk10 hbb hko hN10 hP10)
        | (refine ⟨trivial,?_⟩;gi_at_call 109;refine (show CallsIn Fence.wide _ _ _ _ _ _ from callsIn_wide.2 (stake_i w3.heap.size (w3.heap.size+1) y ents (u:Int) l pk pl pm pp (op++pp) xn _ HN10.out.sl.fb HN10.out.sl.own (by omega) (by omega) (HN10.out.sl.own_ne (by omega)) (by omega) (by omega))).mono ?_;rintro e w11 ⟨rfl,htk⟩;have HTK:=hid htk;clear htk))
       all_goals
        gi_wp2
        obtain ⟨y2,hL11⟩:=HN10.out.sl.take HTK.out
        refine ⟨(HKT.out.trans (HN10.out.sl.takeKeeps HTK.out)).from _,.inr ⟨rfl,xn,y2,(if pk=2 then ents++[op++pp] else ents),pl,pk,pl,pm,pp,?_,hxN,fun hg=>⟨HGX.out hg,?_,?_⟩⟩⟩
        ·rw [show ((xn+1:Nat):Int)=(xn:Int)+1 by omega]
         exact hL11
        ·split
         ·simp
         ·omega
        ·rw [show ((xn+1:Nat):Int)=(xn:Int)+1 by omega]
         exact HEND2.out hg
    ·have hmb:(pm == Z)=false:=by simp [hm]
     have hmb2:(pm != Z)=true:=by simp [hm]
     have HF:=hid (HCX.out (fun h=>hm h.1))
     clear HCX HCP HCE
     gi_wp2
     refine ⟨trivial,?_⟩
     gi_wp2
     exact ⟨KeepsFrom.refl _ _,.inl ⟨rfl,⟨wk,wl,wm,wp,HN1.out.sl⟩,HF.out⟩⟩
   case done =>
    rintro D xs X hD ⟨hgd,hend⟩ ⟨wk,wl,wm,wp,op,hN1,hop,hch⟩ hDh
    have HF:=hid (hch.done hgd hend)
    have HZ:=hid (hN1.sl.push hDh (by omega) (by omega))
    clear hch hend hN1 hop hDh HSL HNS HWB HCH
    have zl:=HZ.out.fb.lt
    obtain ⟨ya,yc,hyv⟩:∃ ya yc,y=Value.slice ya ents.length yc:=by
     rcases owns_forms HZ.out.own with ⟨h1,h2⟩ | ⟨gg,cap,h1,_⟩
     ·exact ⟨none,0,by rw [h1,h2]⟩
     ·exact ⟨_,cap,h1⟩
    subst hyv
    have z0:X.cell? ⟨w3.heap.size+1,0,none⟩=some (Value.slice ya ents.length yc):=HZ.out.fb.cell 0 _ rfl
    have z1:X.cell? ⟨w3.heap.size+1,1,none⟩=some (.int .i64 (u:Int)):=HZ.out.fb.cell 1 _ rfl
    have z2:X.cell? ⟨w3.heap.size+1,2,none⟩=some (.int .i64 l):=HZ.out.fb.cell 2 _ rfl
    have rb:=HR83.out.below HZ.out.be
    have y0:=rb.cell 0 _ rfl
    have y1:=rb.cell 1 _ rfl
    have y2:=rb.cell 2 _ rfl
    have x0:=rb.froz 0 (by simp)
    have x1:=rb.froz 1 (by simp)
    have x2:=rb.froz 2 (by simp)
    have xl:=rb.lt
    have hneq:¬ (w.heap.size+1+1=w3.heap.size+1):=by omega
    have hneq2:¬ (w3.heap.size+1=w.heap.size+1+1):=by omega
    clear rb
    gi_wp2
    have hfin:=HZ.out.fin (w:=w) HR83.out (by omega) HBE3.out
    refine leaves_marks w3.heap.size (ScF1 w w3 (w.heap.size+1+1) (Value.slice ya ents.length yc) ents (u:Int) l) (fun X r h1 h2 h3=>ScF1.put hbw3 X r h1 h2 h3) (fun X hX=>?_) (D::Rs) _ HZ.out.nd hfin.2 hfin.1
    obtain ⟨hr9,ho9,hb9⟩:=hX
    have e0:=hr9.cell 0 _ rfl
    have e1:=hr9.cell 1 _ rfl
    have e2:=hr9.cell 2 _ rfl
    refine ⟨.agg #[Value.slice ya ents.length yc,.int .i64 (u:Int),.int .i64 l],by simp [results,Tryz.results63,go_sem,e0,e1,e2],?_⟩
    rw [<-HF.out]
    exact ⟨_,rfl,owns_low ho9 hbw3,hb9⟩
   case stop =>
    rintro D cc pre X hD hgd hx hDh
    rcases hx with ⟨rfl,⟨wk,wl,wm,wp,hl⟩,hg2⟩ | ⟨rfl,x,y',ents',l',wk,wl,wm,wp,hl,hxN,hg2⟩
    ·have HF:=hid (hg2 hgd)
     have HZ:=hid (hl.push hDh (by omega) (by omega))
     clear hg2 hl hDh HSL HNS HWB HCH
     have zl:=HZ.out.fb.lt
     obtain ⟨ya,yc,hyv⟩:∃ ya yc,y=Value.slice ya ents.length yc:=by
      rcases owns_forms HZ.out.own with ⟨h1,h2⟩ | ⟨gg,cap,h1,_⟩
      ·exact ⟨none,0,by rw [h1,h2]⟩
      ·exact ⟨_,cap,h1⟩
     subst hyv
     have z0:X.cell? ⟨w3.heap.size+1,0,none⟩=some (Value.slice ya ents.length yc):=HZ.out.fb.cell 0 _ rfl
     have z1:X.cell? ⟨w3.heap.size+1,1,none⟩=some (.int .i64 (u:Int)):=HZ.out.fb.cell 1 _ rfl
     have z2:X.cell? ⟨w3.heap.size+1,2,none⟩=some (.int .i64 l):=HZ.out.fb.cell 2 _ rfl
     have rb:=HR83.out.below HZ.out.be
     have y0:=rb.cell 0 _ rfl
     have y1:=rb.cell 1 _ rfl
     have y2:=rb.cell 2 _ rfl
     have x0:=rb.froz 0 (by simp)
     have x1:=rb.froz 1 (by simp)
     have x2:=rb.froz 2 (by simp)
     have xl:=rb.lt
     have hneq:¬ (w.heap.size+1+1=w3.heap.size+1):=by omega
     have hneq2:¬ (w3.heap.size+1=w.heap.size+1+1):=by omega
     clear rb
     gi_wp2
     have hfin:=HZ.out.fin (w:=w) HR83.out (by omega) HBE3.out
     refine leaves_marks w3.heap.size (ScF1 w w3 (w.heap.size+1+1) (Value.slice ya ents.length yc) ents (u:Int) l) (fun X r h1 h2 h3=>ScF1.put hbw3 X r h1 h2 h3) (fun X hX=>?_) (D::Rs) _ HZ.out.nd hfin.2 hfin.1
     obtain ⟨hr9,ho9,hb9⟩:=hX
     have e0:=hr9.cell 0 _ rfl
     have e1:=hr9.cell 1 _ rfl
     have e2:=hr9.cell 2 _ rfl
     refine ⟨.agg #[Value.slice ya ents.length yc,.int .i64 (u:Int),.int .i64 l],by simp [results,Tryz.results63,go_sem,e0,e1,e2],?_⟩
     rw [<-HF.out]
     exact ⟨_,rfl,owns_low ho9 hbw3,hb9⟩
    ·obtain ⟨hux,hle,hc⟩:=hg2 hgd
     have HZ:=hid (hl.push hDh (by omega) (by omega))
     have HC:=hid hc
     clear hg2 hl hDh hc HSL HNS HWB HCH
     gi_wp2
     exact ⟨N-(x+1),by omega,D::Rs,y',ents',x+1,l',wk,wl,wm,wp,_,_,_,_,_,_,_,_,_,rfl,rfl,by omega,by omega,HZ,HC⟩
  ·have HF:=hid (HCH.out.done (Good.nil u) (.inl (by simp;omega)))
   have HZ:=HSL
   have hlt':¬ ((u:Int)<(N:Int)):=by omega
   have zl:=HZ.out.fb.lt
   obtain ⟨ya,yc,hyv⟩:∃ ya yc,y=Value.slice ya ents.length yc:=by
    rcases owns_forms HZ.out.own with ⟨h1,h2⟩ | ⟨gg,cap,h1,_⟩
    ·exact ⟨none,0,by rw [h1,h2]⟩
    ·exact ⟨_,cap,h1⟩
   subst hyv
   have z0:W.cell? ⟨w3.heap.size+1,0,none⟩=some (Value.slice ya ents.length yc):=HZ.out.fb.cell 0 _ rfl
   have z1:W.cell? ⟨w3.heap.size+1,1,none⟩=some (.int .i64 (u:Int)):=HZ.out.fb.cell 1 _ rfl
   have z2:W.cell? ⟨w3.heap.size+1,2,none⟩=some (.int .i64 l):=HZ.out.fb.cell 2 _ rfl
   have rb:=HR83.out.below HZ.out.be
   have y0:=rb.cell 0 _ rfl
   have y1:=rb.cell 1 _ rfl
   have y2:=rb.cell 2 _ rfl
   have x0:=rb.froz 0 (by simp)
   have x1:=rb.froz 1 (by simp)
   have x2:=rb.froz 2 (by simp)
   have xl:=rb.lt
   have hneq:¬ (w.heap.size+1+1=w3.heap.size+1):=by omega
   have hneq2:¬ (w3.heap.size+1=w.heap.size+1+1):=by omega
   clear rb
   gi_wp2
   have hfin:=HZ.out.fin (w:=w) HR83.out (by omega) HBE3.out
   refine leaves_marks w3.heap.size (ScF1 w w3 (w.heap.size+1+1) (Value.slice ya ents.length yc) ents (u:Int) l) (fun X r h1 h2 h3=>ScF1.put hbw3 X r h1 h2 h3) (fun X hX=>?_) Rs _ HZ.out.nd hfin.2 hfin.1
   obtain ⟨hr9,ho9,hb9⟩:=hX
   have e0:=hr9.cell 0 _ rfl
   have e1:=hr9.cell 1 _ rfl
   have e2:=hr9.cell 2 _ rfl
   refine ⟨.agg #[Value.slice ya ents.length yc,.int .i64 (u:Int),.int .i64 l],by simp [results,Tryz.results63,go_sem,e0,e1,e2],?_⟩
   rw [<-HF.out]
   exact ⟨_,rfl,owns_low ho9 hbw3,hb9⟩
end Go.Proofs.YtcoegjnjjdndjaaGreatDoor
namespace Go.Proofs.YtcoegjnjjdndjaaGreatDoor
open Go.RowKit
set_option maxHeartbeats 16000000 in
theorem scan_i_no (a:Option Addr) (ss:List ByteArray) (c:Nat) (a':Option Addr) (ws:List (Int×ByteArray)) (c':Nat) (frm size first life n:Int) (w:World) (h:Strs w a ss) (h':Wrs w a' ws) (hl:ss.length<=1048576) (hl':ws.length<=1048576) (hs:∀ s∈ss,s.size<=1048576) (hs':∀ x∈ws,x.2.size<=1048576) (hfr:-9223372036854775808<=frm/\frm<=9223372036854775807) (hno:¬ scOk ss ws frm size n) :
  Calls Tryz.prog 63 #[diskV a ss.length c a' ws.length c',.int .i64 frm,.int .i64 size,.int .i64 first,.int .i64 life,.int .i64 n] w fun e w'=>ScPost w w' e ([],0,0):=by
 have hb0:∀ o1 o2 o3,Below w.heap.size w (((w.alloc o1).alloc o2).alloc o3):=fun o1 o2 o3=>(((Below.refl _ _).alloc (Nat.le_refl _) _).alloc (by simp) _).alloc (by simp;omega) _
 have HV:=hid (fun (wx:World) (hb:Below w.heap.size w wx)=>valid_i a ss c a' ws c' wx (h.below hb) (h'.below hb) hl hl' hs hs')
 have HT:=hid (fun wx=>there_i ss.length frm size hl hfr.1 hfr.2 wx)
 cases hok:diskOk ss ws with
 | false =>
  have hd:decide (1<=n/\n<=8)=decide (1<=n/\n<=8):=rfl
  have ht:decide (0<=frm/\0<=size/\size<=(ss.length:Int)-frm)=decide (0<=frm/\0<=size/\size<=(ss.length:Int)-frm):=rfl
  clear hno
  go_enter Tryz.func63,Tryz.ntmps63
  go_wp2
  refine wp_scope_straight ?_
  go_wp2_with (first | (go_at_call 58;refine (HV.out _ (hb0 _ _ _)).mono ?_;rw [hok];rintro e w1 ⟨rfl,hb1⟩;have r6:=(((row_new' w #[.slice a ss.length c,.slice a' ws.length c'] 44 w.heap.size rfl).alloc (.cells #[.int .i64 first] 3)).alloc (.cells #[.slice none 0 0,.int .i64 0,.int .i64 0] 90)).below hb1;have rRB:=(row_new' ((w.alloc (.cells #[.slice a ss.length c,.slice a' ws.length c'] 44)).alloc (.cells #[.int .i64 first] 3)) #[.slice none 0 0,.int .i64 0,.int .i64 0] 90 (w.heap.size+1+1) (by simp)).below hb1;have HB:=hid ((hb0 (.cells #[.slice a ss.length c,.slice a' ws.length c'] 44) (.cells #[.int .i64 first] 3) (.cells #[.slice none 0 0,.int .i64 0,.int .i64 0] 90)).trans (hb1.mono (by simp<;>omega)));have q0:=r6.cell 0 _ rfl;have ql:=r6.lt;have b0:=rRB.cell 0 _ rfl;have b1:=rRB.cell 1 _ rfl;have b2:=rRB.cell 2 _ rfl;have bf0:=rRB.froz 0 (by simp);have bf1:=rRB.froz 1 (by simp);have bf2:=rRB.froz 2 (by simp);have bl:=rRB.lt;clear hb1 r6 rRB) | (go_at_call 57;refine (width_i _ _).mono ?_;rw [hd];rintro e wz ⟨rfl,hwz⟩;rw [hwz];clear hwz wz) | (go_at_call 105;refine (HT.out _).mono ?_;rw [ht];rintro e wz ⟨rfl,hwz⟩;rw [hwz];clear hwz wz))
  try simp only [Exit.noGoto]
  refine bodyPost_ret (v:=.agg #[.slice none 0 0,.int .i64 0,.int .i64 0]) (by simp [results,Tryz.results63,go_sem,b0,b1,b2]) rfl ?_
  exact ⟨.slice none 0 0,rfl,World.ownsRow_nil _ _ _ _,((HB.out.setCell (by show w.heap.size<=w.heap.size+1+1;omega) _).setCell (by show w.heap.size<=w.heap.size+1+1;omega) _).setCell (by show w.heap.size<=w.heap.size+1+1;omega) _⟩
 | true =>
  by_cases hn:1<=n/\n<=8
  ·have hd:decide (1<=n/\n<=8)=true:=decide_eq_true hn
   have ht:decide (0<=frm/\0<=size/\size<=(ss.length:Int)-frm)=false:=decide_eq_false (fun hh=>hno ⟨hok,hn,hh.1,hh.2.1,by omega,hh.2.2⟩)
   clear hno
   go_enter Tryz.func63,Tryz.ntmps63
   go_wp2
   refine wp_scope_straight ?_
   go_wp2_with (first | (go_at_call 58;refine (HV.out _ (hb0 _ _ _)).mono ?_;rw [hok];rintro e w1 ⟨rfl,hb1⟩;have r6:=(((row_new' w #[.slice a ss.length c,.slice a' ws.length c'] 44 w.heap.size rfl).alloc (.cells #[.int .i64 first] 3)).alloc (.cells #[.slice none 0 0,.int .i64 0,.int .i64 0] 90)).below hb1;have rRB:=(row_new' ((w.alloc (.cells #[.slice a ss.length c,.slice a' ws.length c'] 44)).alloc (.cells #[.int .i64 first] 3)) #[.slice none 0 0,.int .i64 0,.int .i64 0] 90 (w.heap.size+1+1) (by simp)).below hb1;have HB:=hid ((hb0 (.cells #[.slice a ss.length c,.slice a' ws.length c'] 44) (.cells #[.int .i64 first] 3) (.cells #[.slice none 0 0,.int .i64 0,.int .i64 0] 90)).trans (hb1.mono (by simp<;>omega)));have q0:=r6.cell 0 _ rfl;have ql:=r6.lt;have b0:=rRB.cell 0 _ rfl;have b1:=rRB.cell 1 _ rfl;have b2:=rRB.cell 2 _ rfl;have bf0:=rRB.froz 0 (by simp);have bf1:=rRB.froz 1 (by simp);have bf2:=rRB.froz 2 (by simp);have bl:=rRB.lt;clear hb1 r6 rRB) | (go_at_call 57;refine (width_i _ _).mono ?_;rw [hd];rintro e wz ⟨rfl,hwz⟩;rw [hwz];clear hwz wz) | (go_at_call 105;refine (HT.out _).mono ?_;rw [ht];rintro e wz ⟨rfl,hwz⟩;rw [hwz];clear hwz wz))
   try simp only [Exit.noGoto]
   refine bodyPost_ret (v:=.agg #[.slice none 0 0,.int .i64 0,.int .i64 0]) (by simp [results,Tryz.results63,go_sem,b0,b1,b2]) rfl ?_
   exact ⟨.slice none 0 0,rfl,World.ownsRow_nil _ _ _ _,((HB.out.setCell (by show w.heap.size<=w.heap.size+1+1;omega) _).setCell (by show w.heap.size<=w.heap.size+1+1;omega) _).setCell (by show w.heap.size<=w.heap.size+1+1;omega) _⟩
  ·have hd:decide (1<=n/\n<=8)=false:=decide_eq_false hn
   have ht:decide (0<=frm/\0<=size/\size<=(ss.length:Int)-frm)=decide (0<=frm/\0<=size/\size<=(ss.length:Int)-frm):=rfl
   clear hno
   go_enter Tryz.func63,Tryz.ntmps63
   go_wp2
   refine wp_scope_straight ?_
   go_wp2_with (first | (go_at_call 58;refine (HV.out _ (hb0 _ _ _)).mono ?_;rw [hok];rintro e w1 ⟨rfl,hb1⟩;have r6:=(((row_new' w #[.slice a ss.length c,.slice a' ws.length c'] 44 w.heap.size rfl).alloc (.cells #[.int .i64 first] 3)).alloc (.cells #[.slice none 0 0,.int .i64 0,.int .i64 0] 90)).below hb1;have rRB:=(row_new' ((w.alloc (.cells #[.slice a ss.length c,.slice a' ws.length c'] 44)).alloc (.cells #[.int .i64 first] 3)) #[.slice none 0 0,.int .i64 0,.int .i64 0] 90 (w.heap.size+1+1) (by simp)).below hb1;have HB:=hid ((hb0 (.cells #[.slice a ss.length c,.slice a' ws.length c'] 44) (.cells #[.int .i64 first] 3) (.cells #[.slice none 0 0,.int .i64 0,.int .i64 0] 90)).trans (hb1.mono (by simp<;>omega)));have q0:=r6.cell 0 _ rfl;have ql:=r6.lt;have b0:=rRB.cell 0 _ rfl;have b1:=rRB.cell 1 _ rfl;have b2:=rRB.cell 2 _ rfl;have bf0:=rRB.froz 0 (by simp);have bf1:=rRB.froz 1 (by simp);have bf2:=rRB.froz 2 (by simp);have bl:=rRB.lt;clear hb1 r6 rRB) | (go_at_call 57;refine (width_i _ _).mono ?_;rw [hd];rintro e wz ⟨rfl,hwz⟩;rw [hwz];clear hwz wz) | (go_at_call 105;refine (HT.out _).mono ?_;rw [ht];rintro e wz ⟨rfl,hwz⟩;rw [hwz];clear hwz wz))
   try simp only [Exit.noGoto]
   refine bodyPost_ret (v:=.agg #[.slice none 0 0,.int .i64 0,.int .i64 0]) (by simp [results,Tryz.results63,go_sem,b0,b1,b2]) rfl ?_
   exact ⟨.slice none 0 0,rfl,World.ownsRow_nil _ _ _ _,((HB.out.setCell (by show w.heap.size<=w.heap.size+1+1;omega) _).setCell (by show w.heap.size<=w.heap.size+1+1;omega) _).setCell (by show w.heap.size<=w.heap.size+1+1;omega) _⟩
theorem scan_i (a:Option Addr) (ss:List ByteArray) (c:Nat) (a':Option Addr) (ws:List (Int×ByteArray)) (c':Nat) (frm size first life n:Int) (w:World) (h:Strs w a ss) (h':Wrs w a' ws) (hl:ss.length<=1048576) (hl':ws.length<=1048576) (hs:∀ s∈ss,s.size<=1048576) (hs':∀ x∈ws,x.2.size<=1048576) (hfr:-9223372036854775808<=frm/\frm<=9223372036854775807) (hfi:-9223372036854775808<=first/\first<=9223372036854775807)
  (ty:TypeId) (v:Value) (hv:w.cell? ⟨1,0,none⟩=some (.iface ty v)) (h0:w.cell? ⟨0,0,none⟩=some (.iface 253 (.agg #[.pointer (some ⟨3,165,none⟩)]))) (hg:1<w.heap.size) :
  Calls Tryz.prog 63 #[diskV a ss.length c a' ws.length c',.int .i64 frm,.int .i64 size,.int .i64 first,.int .i64 life,.int .i64 n] w fun e w'=>ScPost w w' e (scD ss ws frm size first life n):=by
 by_cases hyes:scOk ss ws frm size n
 ·exact scan_i_yes a ss c a' ws c' frm size first life n w h h' hl hl' hs hs' hfi ty v hv h0 hg hyes
 ·have e:scD ss ws frm size first life n=([],0,0):=by unfold scD;rw [if_neg hyes]
  rw [e]
  exact scan_i_no a ss c a' ws c' frm size first life n w h h' hl hl' hs hs' hfr hyes
end Go.Proofs.YtcoegjnjjdndjaaGreatDoor
