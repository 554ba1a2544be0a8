import Derived.Deep.Cut
import Derived.Deep.CutRange
import Derived.Test.YtcoegjnjjdndjaaGreatDoorPrG44
import Derived.Test.YtcoegjnjjdndjaaGreatDoorPrG51
import Derived.Test.YtcoegjnjjdndjaaGreatDoorPrG43
import Derived.Test.YtcoegjnjjdndjaaGreatDoorPrOpS
import Derived.Test.YtcoegjnjjdndjaaGreatDoorPrG30
import Derived.Test.YtcoegjnjjdndjaaGreatDoorPrG34
import Derived.Test.YtcoegjnjjdndjaaGreatDoorPrG47
import Derived.Test.YtcoegjnjjdndjaaGreatDoorPrVStI
namespace Go.Proofs.YtcoegjnjjdndjaaGreatDoor
open Go.RowKit
set_option linter.unusedVariables false
set_option linter.unusedSimpArgs false
set_option maxRecDepth 8000
set_option maxHeartbeats 16000000 in
theorem open_i (a:Option Addr) (ss:List ByteArray) (c:Nat) (a':Option Addr) (ws:List (Int×ByteArray)) (c':Nat) (n:Int) (w:World) (h:Strs w a ss) (h':Wrs w a' ws) (hl:ss.length<=1048576) (hl':ws.length<=1048576) (hs:∀ s∈ss,s.size<=1048576) (hs':∀ x∈ws,x.2.size<=1048576)
  (ty:TypeId) (v:Value) (hv_:w.cell? ⟨1,0,none⟩=some (.iface ty v)) (h0_:w.cell? ⟨0,0,none⟩=some (.iface 253 (.agg #[.pointer (some ⟨3,165,none⟩)]))) (hg_:1<w.heap.size) :
  Calls Tryz.prog 25 #[diskV a ss.length c a' ws.length c',.int .i64 n] w fun x w'=>DnPost w w' x (openD ss ws n):=by
 have HV:=hid (fun (wx:World) k1 k2=>valid_i a ss c a' ws c' wx k1 k2 hl hl' hs hs')
 obtain ⟨D,HD⟩:∃ D,Hid (D=openD ss ws n):=⟨_,hid rfl⟩
 rw [<-HD.out]
 by_cases hyes:diskOk ss ws=true/\1<=n/\n<=8
 case neg =>
  have HNO:=hid hyes
  cases hok:diskOk ss ws with
  | false =>
   rw [hok] at HV
   clear hok hyes hv_ h0_
   go_enter Tryz.func25,Tryz.ntmps25
   go_wp2_with fail
   obtain ⟨v0,e0⟩:∃ x,x=(w.alloc (.cells #[.slice a ss.length c,.slice a' ws.length c'] 44)).alloc (.cells #[.int .i64 0,.int .i64 0,.int .i64 0,.int .i64 0,.int .i64 0,.int .i64 0,.int .i64 0,.int .i64 0,.int .i64 0,.int .i64 0,.slice none 0 0,.slice none 0 0] 64):=⟨_,rfl⟩
   have hE:Below w.heap.size w v0:=by rw [e0];exact ((Below.refl _ _).alloc (Nat.le_refl _) _).alloc (by simp) _
   have s_v0:w.heap.size+1+1<=v0.heap.size:=by rw [e0];simp
   have bA:Dep v0 w.heap.size (w.heap.size+1) (fun W'=>Row W' w.heap.size [.slice a ss.length c,.slice a' ws.length c']):=by rw [e0];exact (dep_box w _ _).below ((Below.refl _ _).alloc (Nat.le_refl _) _)
   have bD:Dep v0 (w.heap.size+1) (w.heap.size+1+1) (fun W'=>Row W' (w.heap.size+1) [.int .i64 0,.int .i64 0,.int .i64 0,.int .i64 0,.int .i64 0,.int .i64 0,.int .i64 0,.int .i64 0,.int .i64 0,.int .i64 0,.slice none 0 0,.slice none 0 0]):=by rw [e0];exact dep_row (row_at (w:=w.alloc _) (by simp)) (Nat.le_refl _) (by omega) (by simp)
   rw [<-e0]
   clear e0
   refine (HV.out _ (h.below hE) (h'.below hE)).mono ?_
   rintro e v1 ⟨rfl,hb⟩
   have s_v1:v0.heap.size<=v1.heap.size:=hb.size
   replace bA:=bA.below hb
   replace bD:=bD.below hb
   replace hE:=hE.trans (hb.mono hE.size)
   clear hb
   have q_bD_0:=bD.now.cell 0 _ rfl
   have f_bD_0:=bD.now.froz 0 (by simp)
   have q_bD_1:=bD.now.cell 1 _ rfl
   have f_bD_1:=bD.now.froz 1 (by simp)
   have q_bD_2:=bD.now.cell 2 _ rfl
   have f_bD_2:=bD.now.froz 2 (by simp)
   have q_bD_3:=bD.now.cell 3 _ rfl
   have f_bD_3:=bD.now.froz 3 (by simp)
   have q_bD_4:=bD.now.cell 4 _ rfl
   have f_bD_4:=bD.now.froz 4 (by simp)
   have q_bD_5:=bD.now.cell 5 _ rfl
   have f_bD_5:=bD.now.froz 5 (by simp)
   have q_bD_6:=bD.now.cell 6 _ rfl
   have f_bD_6:=bD.now.froz 6 (by simp)
   have q_bD_7:=bD.now.cell 7 _ rfl
   have f_bD_7:=bD.now.froz 7 (by simp)
   have q_bD_8:=bD.now.cell 8 _ rfl
   have f_bD_8:=bD.now.froz 8 (by simp)
   have q_bD_9:=bD.now.cell 9 _ rfl
   have f_bD_9:=bD.now.froz 9 (by simp)
   have q_bD_10:=bD.now.cell 10 _ rfl
   have f_bD_10:=bD.now.froz 10 (by simp)
   have q_bD_11:=bD.now.cell 11 _ rfl
   have f_bD_11:=bD.now.froz 11 (by simp)
   have q_bD_l:=bD.now.lt
   go_wp2_with fail
   rw [show D=noD 1 from HD.out.trans (openD_1 HNO.out)]
   refine bodyPost_ret (v:=dnV (noD 1) none 0 none 0) (by simp [results,Tryz.results25,go_sem,dnV,noD,q_bD_l,q_bD_0,q_bD_1,q_bD_2,q_bD_3,q_bD_4,q_bD_5,q_bD_6,q_bD_7,q_bD_8,q_bD_9,q_bD_10,q_bD_11]) rfl (dn_no rfl ?_)
   iterate 12 (refine Below.setCell ?_ (by show w.heap.size<=w.heap.size+1;omega) _)
   exact hE
  | true =>
   have hd:decide (1<=n/\n<=8)=false:=decide_eq_false (fun hh=>hyes ⟨hok,hh⟩)
   rw [hok] at HV
   clear hok hyes hv_ h0_
   go_enter Tryz.func25,Tryz.ntmps25
   go_wp2_with fail
   obtain ⟨v0,e0⟩:∃ x,x=(w.alloc (.cells #[.slice a ss.length c,.slice a' ws.length c'] 44)).alloc (.cells #[.int .i64 0,.int .i64 0,.int .i64 0,.int .i64 0,.int .i64 0,.int .i64 0,.int .i64 0,.int .i64 0,.int .i64 0,.int .i64 0,.slice none 0 0,.slice none 0 0] 64):=⟨_,rfl⟩
   have hE:Below w.heap.size w v0:=by rw [e0];exact ((Below.refl _ _).alloc (Nat.le_refl _) _).alloc (by simp) _
   have s_v0:w.heap.size+1+1<=v0.heap.size:=by rw [e0];simp
   have bA:Dep v0 w.heap.size (w.heap.size+1) (fun W'=>Row W' w.heap.size [.slice a ss.length c,.slice a' ws.length c']):=by rw [e0];exact (dep_box w _ _).below ((Below.refl _ _).alloc (Nat.le_refl _) _)
   have bD:Dep v0 (w.heap.size+1) (w.heap.size+1+1) (fun W'=>Row W' (w.heap.size+1) [.int .i64 0,.int .i64 0,.int .i64 0,.int .i64 0,.int .i64 0,.int .i64 0,.int .i64 0,.int .i64 0,.int .i64 0,.int .i64 0,.slice none 0 0,.slice none 0 0]):=by rw [e0];exact dep_row (row_at (w:=w.alloc _) (by simp)) (Nat.le_refl _) (by omega) (by simp)
   rw [<-e0]
   clear e0
   refine (HV.out _ (h.below hE) (h'.below hE)).mono ?_
   rintro e v1 ⟨rfl,hb⟩
   have s_v1:v0.heap.size<=v1.heap.size:=hb.size
   replace bA:=bA.below hb
   replace bD:=bD.below hb
   replace hE:=hE.trans (hb.mono hE.size)
   clear hb
   have q_bA_0:=bA.now.cell 0 _ rfl
   have q_bA_1:=bA.now.cell 1 _ rfl
   have q_bA_l:=bA.now.lt
   have q_bD_0:=bD.now.cell 0 _ rfl
   have f_bD_0:=bD.now.froz 0 (by simp)
   have q_bD_1:=bD.now.cell 1 _ rfl
   have f_bD_1:=bD.now.froz 1 (by simp)
   have q_bD_2:=bD.now.cell 2 _ rfl
   have f_bD_2:=bD.now.froz 2 (by simp)
   have q_bD_3:=bD.now.cell 3 _ rfl
   have f_bD_3:=bD.now.froz 3 (by simp)
   have q_bD_4:=bD.now.cell 4 _ rfl
   have f_bD_4:=bD.now.froz 4 (by simp)
   have q_bD_5:=bD.now.cell 5 _ rfl
   have f_bD_5:=bD.now.froz 5 (by simp)
   have q_bD_6:=bD.now.cell 6 _ rfl
   have f_bD_6:=bD.now.froz 6 (by simp)
   have q_bD_7:=bD.now.cell 7 _ rfl
   have f_bD_7:=bD.now.froz 7 (by simp)
   have q_bD_8:=bD.now.cell 8 _ rfl
   have f_bD_8:=bD.now.froz 8 (by simp)
   have q_bD_9:=bD.now.cell 9 _ rfl
   have f_bD_9:=bD.now.froz 9 (by simp)
   have q_bD_10:=bD.now.cell 10 _ rfl
   have f_bD_10:=bD.now.froz 10 (by simp)
   have q_bD_11:=bD.now.cell 11 _ rfl
   have f_bD_11:=bD.now.froz 11 (by simp)
   have q_bD_l:=bD.now.lt
   go_wp2_with (go_at_call 57;refine (width_i _ _).mono ?_;rw [hd];rintro e wz ⟨rfl,hwz⟩;rw [hwz];clear hwz wz)
   rw [show D=noD 1 from HD.out.trans (openD_1 HNO.out)]
   refine bodyPost_ret (v:=dnV (noD 1) none 0 none 0) (by simp [results,Tryz.results25,go_sem,dnV,noD,q_bD_l,q_bD_0,q_bD_1,q_bD_2,q_bD_3,q_bD_4,q_bD_5,q_bD_6,q_bD_7,q_bD_8,q_bD_9,q_bD_10,q_bD_11]) rfl (dn_no rfl ?_)
   iterate 12 (refine Below.setCell ?_ (by show w.heap.size<=w.heap.size+1;omega) _)
   exact hE
 have hd:decide (1<=n/\n<=8)=true:=decide_eq_true hyes.2
 rw [hyes.1] at HV
 have hg:=frD_good hyes
 have hxr:=opX_rng hyes
 obtain ⟨⟨hn1,hn2,hn3⟩,_,_⟩:=diskOk_of hyes.1
 have hQ:=hv_yes (S:=(ss.length:Int)) (by omega)
 obtain ⟨T,H,F,R,hFR⟩:∃ T H F R,frD ss ws n=(T,H,F,R):=⟨_,_,_,_,rfl⟩
 obtain ⟨es,U,L,hX⟩:∃ es U L,opX ss ws n=(es,U,L):=⟨_,_,_,rfl⟩
 have hX':scD ss ws (2+H*hv ss.length) (hv ss.length) F R n=(es,U,L):=by rw [<-hX];unfold opX;rw [hFR]
 rw [hFR] at hg
 rw [hX] at hxr
 unfold rtGood at hg
 simp only at hg hxr
 obtain ⟨hT,hH,hF,hR⟩:=hg
 obtain ⟨hU,hL,hel,hes⟩:=hxr
 have HES:=hid hes
 clear hes
 have HGV:=hid (fun wx (hb:Below w.heap.size w wx)=>((hb.cell (p:=⟨1,0,none⟩) hg_).trans hv_))
 have HG0:=hid (fun wx (hb:Below w.heap.size w wx)=>((hb.cell (p:=⟨0,0,none⟩) (by show 0<_;omega)).trans h0_))
 have HFR:=hid (fun wx k1 k2 (hb:Below w.heap.size w wx)=>fr_i a ss c a' ws c' n wx k1 k2 hl hl' hs hs' ty v (HGV.out _ hb) (HG0.out _ hb) (by have:=hb.size;omega))
 rw [hFR] at HFR
 simp only [rtV] at HFR
 have hhm:=half_mul hH (q:=hv ss.length) (by omega)
 have HSC:=hid (fun wx k1 k2 (hb:Below w.heap.size w wx)=>(scan_i a ss c a' ws c' (2+H*hv ss.length) (hv ss.length) F R n wx k1 k2 hl hl' hs hs' (by omega) (by omega) ty v (HGV.out _ hb) (HG0.out _ hb) (by have:=hb.size;omega)).mono (fun e w2 hh=>scpost_own hh))
 rw [hX'] at HSC
 simp only [scV] at HSC
 have HH:=hid (fun wx=>halves_i (ss.length:Int) wx)
 have HB:=hid (fun wx=>half_start (ss.length:Int) H hH.1 hH.2 wx)
 have HFD:=hid (fun ax cx wx k1=>fold_i ax es cx wx k1 (by omega) (fun e he=>by have:=HES.out e he;omega))
 unfold FdPost stV at HFD
 clear hhm hv_ h0_
 have HYES:=hid hyes
 have HFRe:=hid hFR
 have HXe:=hid hX
 clear hyes hFR hX hX'
 have HD2:Hid (foldE es []=none->D=noD 2):=fun hf=>HD.out.trans (openD_2 HYES.out HXe.out hf)
 have HD3:Hid (∀ rs,foldE es []=some rs->60000<L+1->D=noD 3):=fun rs hf h4=>HD.out.trans (openD_3 HYES.out HXe.out hf h4)
 have HD4:Hid (∀ rs,foldE es []=some rs->¬ 60000<L+1->hv ss.length-1<roomOf (snapOf rs) n->D=noD 4):=fun rs hf h4 h5=>HD.out.trans (openD_4 HYES.out HXe.out hf h4 h5)
 have HD5:Hid (∀ rs,foldE es []=some rs->¬ 60000<L+1->¬ hv ss.length-1<roomOf (snapOf rs) n->hv ss.length<=U->D=moveD n ss.length (L+1) T H F rs):=fun rs hf h4 h5 h6=>HD.out.trans (openD_5 HYES.out HFRe.out HXe.out hf h4 h5 h6)
 have HD6:Hid (∀ rs,foldE es []=some rs->¬ 60000<L+1->¬ hv ss.length-1<roomOf (snapOf rs) n->¬ hv ss.length<=U->D=⟨0,n,ss.length,L+1,T,H,F,R,U+1,0,rs,[(false,2+H*hv ss.length+U,formOf 3 (L+1) (F+U) ByteArray.empty n),(true,0,ByteArray.empty)]⟩):=fun rs hf h4 h5 h6=>HD.out.trans (openD_6 HYES.out HFRe.out HXe.out hf h4 h5 h6)
 have HMO:Hid (∀ rs,¬ 60000<L+1->¬ hv ss.length-1<roomOf (snapOf rs) n->mvOk n ss.length (L+1) T H F rs):=fun rs h4 h5=>⟨HYES.out.2,by omega,by omega,hT,hH,hF,by omega⟩
 clear HFRe HXe HD
 obtain ⟨Q,HQ⟩:∃ Q,Hid (Q=hv ss.length):=⟨_,hid rfl⟩
 obtain ⟨q,hq⟩:∃ q,q=2+H*Q:=⟨_,rfl⟩
 rw [<-HQ.out] at hQ hU HSC HH HB HD4 HD5 HD6 HMO
 rw [<-hq] at HSC HB HD6
 have hqb:2<=q/\q<=101:=by have:=half_mul hH (q:=Q) (by omega);omega
 have HQE:Hid (2+H*hv ss.length=q):=by show _=_;rw [hq,HQ.out]
 clear hq
 have hwQ:IntKind.i64.wrap (Q-1)=Q-1:=i64_idO _ (by omega) (by omega)
 have hwL:IntKind.i64.wrap (L+1)=L+1:=i64_idO _ (by omega) (by omega)
 have hwU:IntKind.i64.wrap (U+1)=U+1:=i64_idO _ (by omega) (by omega)
 have hwF:IntKind.i64.wrap (F+U)=F+U:=i64_idO _ (by omega) (by omega)
 have hwq:IntKind.i64.wrap (q+U)=q+U:=i64_idO _ (by omega) (by omega)
 go_enter Tryz.func25,Tryz.ntmps25
 go_wp2_with fail
 obtain ⟨v0,e0⟩:∃ x,x=(w.alloc (.cells #[.slice a ss.length c,.slice a' ws.length c'] 44)).alloc (.cells #[.int .i64 0,.int .i64 0,.int .i64 0,.int .i64 0,.int .i64 0,.int .i64 0,.int .i64 0,.int .i64 0,.int .i64 0,.int .i64 0,.slice none 0 0,.slice none 0 0] 64):=⟨_,rfl⟩
 have hE:Below w.heap.size w v0:=by rw [e0];exact ((Below.refl _ _).alloc (Nat.le_refl _) _).alloc (by simp) _
 have s_v0:w.heap.size+1+1<=v0.heap.size:=by rw [e0];simp
 have bA:Dep v0 w.heap.size (w.heap.size+1) (fun W'=>Row W' w.heap.size [.slice a ss.length c,.slice a' ws.length c']):=by rw [e0];exact (dep_box w _ _).below ((Below.refl _ _).alloc (Nat.le_refl _) _)
 have bD:Dep v0 (w.heap.size+1) (w.heap.size+1+1) (fun W'=>Row W' (w.heap.size+1) [.int .i64 0,.int .i64 0,.int .i64 0,.int .i64 0,.int .i64 0,.int .i64 0,.int .i64 0,.int .i64 0,.int .i64 0,.int .i64 0,.slice none 0 0,.slice none 0 0]):=by rw [e0];exact dep_row (row_at (w:=w.alloc _) (by simp)) (Nat.le_refl _) (by omega) (by simp)
 rw [<-e0]
 clear e0
 refine (HV.out _ (h.below hE) (h'.below hE)).mono ?_
 rintro e v1 ⟨rfl,hb⟩
 have s_v1:v0.heap.size<=v1.heap.size:=hb.size
 replace bA:=bA.below hb
 replace bD:=bD.below hb
 replace hE:=hE.trans (hb.mono hE.size)
 clear hb
 have q_bA_0:=bA.now.cell 0 _ rfl
 have q_bA_1:=bA.now.cell 1 _ rfl
 have q_bA_l:=bA.now.lt
 go_wp2_with (go_at_call 57;refine (width_i _ _).mono ?_;rw [hd];rintro e wz ⟨rfl,hwz⟩;rw [hwz];clear hwz wz)
 clear q_bA_0 q_bA_1 q_bA_l
 refine (HFR.out _ (h.below hE) (h'.below hE) hE).mono ?_
 rintro e v2 ⟨rfl,hb⟩
 have s_v2:v1.heap.size<=v2.heap.size:=hb.size
 replace bA:=bA.below hb
 replace bD:=bD.below hb
 replace hE:=hE.trans (hb.mono hE.size)
 clear hb
 have q_bA_0:=bA.now.cell 0 _ rfl
 have q_bA_1:=bA.now.cell 1 _ rfl
 have q_bA_l:=bA.now.lt
 go_upto_region 5 with fail
 clear q_bA_0 q_bA_1 q_bA_l
 generalize e_v3:v2.alloc _=v3
 obtain ⟨hb,z_v3,bR⟩:=bx1 e_v3
 have s_v3:v2.heap.size+1<=v3.heap.size:=by omega
 clear e_v3 z_v3
 replace bA:=bA.below hb
 replace bD:=bD.below hb
 replace hE:=hE.trans (hb.mono hE.size)
 clear hb
 go_cut [7] from 26 to 38 (fun v7 wx=>∃ (BX:Nat) (ax:Option Addr) (cx:Nat),v7=.pointer (some ⟨BX,0,none⟩)/\Row wx BX [.slice ax es.length cx,.int .i64 U,.int .i64 L]/\v3.heap.size<=BX/\OwnS wx ax (es.map Value.string)/\(∀ g,blk ax es.length=some g->v3.heap.size<=g)/\Below v3.heap.size v3 wx)
 case first =>
  have HK:Hid (∀ W,Below v3.heap.size v3 W->W.cell? ⟨w.heap.size,0,none⟩=some (.slice a ss.length c)/\W.cell? ⟨w.heap.size,1,none⟩=some (.slice a' ws.length c')/\W.cell? ⟨v2.heap.size,1,none⟩=some (.int .i64 H)/\W.cell? ⟨v2.heap.size,2,none⟩=some (.int .i64 F)/\W.cell? ⟨v2.heap.size,3,none⟩=some (.int .i64 R)):=fun W hb=>⟨(bA.below hb).now.cell 0 _ rfl,(bA.below hb).now.cell 1 _ rfl,(bR.below hb).now.cell 1 _ rfl,(bR.below hb).now.cell 2 _ rfl,(bR.below hb).now.cell 3 _ rfl⟩
  refine wp_region_held_drew (S:=fun w'=>w'.cell? ⟨w.heap.size,0,none⟩=some (.slice a ss.length c)/\w'.cell? ⟨w.heap.size,1,none⟩=some (.slice a' ws.length c')/\w'.cell? ⟨v2.heap.size,1,none⟩=some (.int .i64 H)/\w'.cell? ⟨v2.heap.size,2,none⟩=some (.int .i64 F)/\w'.cell? ⟨v2.heap.size,3,none⟩=some (.int .i64 R)) (by kernel_rfl) (HK.out _ (Below.refl _ _).drew) (fun hHeld=>?_)
  refine TY (i:=0) (v:=.agg #[.slice a ss.length c,.slice a' ws.length c']) rfl hHeld ?_
  simp only [PS]
  refine TY (i:=1) (v:=.int .i64 (ss.length:Int)) rfl hHeld ?_
  simp only [PS]
  refine TY (i:=2) (v:=.pointer (some ⟨v2.heap.size,1,none⟩)) rfl hHeld ?_
  simp only [PS]
  refine TY (i:=3) (v:=.int .i64 H) rfl hHeld ?_
  simp only [PS]
  refine TY (i:=5) (v:=.int .i64 (ss.length:Int)) rfl hHeld ?_
  simp only [PS]
  refine TY (i:=7) (v:=.pointer (some ⟨v2.heap.size,2,none⟩)) rfl hHeld ?_
  simp only [PS]
  refine TY (i:=8) (v:=.int .i64 F) rfl hHeld ?_
  simp only [PS]
  refine TY (i:=9) (v:=.pointer (some ⟨v2.heap.size,3,none⟩)) rfl hHeld ?_
  simp only [PS]
  refine TY (i:=10) (v:=.int .i64 R) rfl hHeld ?_
  simp only [PS]
  refine TY (i:=11) (v:=.int .i64 n) rfl hHeld ?_
  simp only [PS]
  refine wpAnyH_ready (rs:=[4,13]) (by kernel_rfl) (by simp) ?_
  refine AllReadyH.cons rfl (fun Kq hKq=>?_) (AllReadyH.cons rfl (fun Kq hKq=>?_) AllReadyH.nil)
  ·refine step_call (by rfl) 64 #[.int .i64 (ss.length:Int),.int .i64 H] (by go_simp) (HB.out _) ?_
   rintro e wz ⟨rfl,rfl⟩
   refine ⟨_,rfl,?_⟩
   refine hKq.out _ _ hHeld (fun _=>?_)
   clear hKq Kq
   try simp only [PS]
   refine wpAnyH_ready (rs:=[6,13]) (by kernel_rfl) (by simp) ?_
   refine AllReadyH.cons rfl (fun Kq hKq=>?_) (AllReadyH.cons rfl (fun Kq hKq=>?_) AllReadyH.nil)
   ·refine step_call (by rfl) 65 #[.int .i64 (ss.length:Int)] (by go_simp) (HH.out _) ?_
    rintro e wz ⟨rfl,rfl⟩
    refine ⟨_,rfl,?_⟩
    refine hKq.out _ _ hHeld (fun _=>?_)
    clear hKq Kq
    try simp only [PS]
    refine wpAnyH_ready (rs:=[12,13]) (by kernel_rfl) (by simp) ?_
    refine AllReadyH.cons rfl (fun Kq hKq=>?_) (AllReadyH.cons rfl (fun Kq hKq=>?_) AllReadyH.nil)
    ·refine step_call (by rfl) 63 #[.agg #[.slice a ss.length c,.slice a' ws.length c'],.int .i64 q,.int .i64 Q,.int .i64 F,.int .i64 R,.int .i64 n] (by go_simp) (HSC.out _ ((h.below hE).below ((Below.refl _ _).drew)) ((h'.below hE).below ((Below.refl _ _).drew)) (hE.trans (Below.mono ((Below.refl _ _).drew) hE.size))) ?_
     rintro e u1 ⟨ax,cx,rfl,hox,hgx,hb_u⟩
     refine ⟨_,rfl,?_⟩
     have hb_u':Below v3.heap.size v3 u1:=(Below.refl _ _).drew.trans hb_u
     refine hKq.out _ _ (HK.out _ hb_u') (fun hHd3=>?_)
     clear hKq Kq
     try simp only [PS]
     refine RD (i:=13) rfl (fun Kq hKq=>?_)
     go_simp
     refine hKq.out _ _ (HK.out _ (hb_u'.alloc hb_u'.size _)) (fun hHd4=>?_)
     clear hKq Kq
     try simp only [PS]
     refine RD (i:=14) rfl (fun Kq hKq=>?_)
     go_simp
     refine hKq.out _ _ (HK.out _ (hb_u'.alloc hb_u'.size _)) (fun hHd5=>?_)
     clear hKq Kq
     try simp only [PS]
     refine wpAnyH_done (by kernel_rfl) ?_ _
     go_wp2_with fail
     go_meet
     exact ⟨u1.heap.size,ax,cx,rfl,row_new _ _ _,hb_u'.size,hox.below ((Below.refl _ _).alloc (Nat.le_refl _) _),hgx,hb_u'.alloc hb_u'.size _⟩
    ·go_simp
     have hbA:Below v3.heap.size v3 (v3.alloc (.cells #[.slice none 0 0,.int .i64 0,.int .i64 0] 90)).drew:=((Below.refl _ _).alloc (Nat.le_refl _) _).drew
     refine hKq.out _ _ (HK.out _ hbA) (fun hHd6=>?_)
     clear hKq Kq
     try simp only [PS]
     refine RD (i:=12) rfl (fun Kq hKq=>?_)
     refine step_call (by rfl) 63 #[.agg #[.slice a ss.length c,.slice a' ws.length c'],.int .i64 q,.int .i64 Q,.int .i64 F,.int .i64 R,.int .i64 n] (by go_simp) (HSC.out _ ((h.below hE).below hbA) ((h'.below hE).below hbA) (hE.trans (Below.mono hbA hE.size))) ?_
     rintro e u1 ⟨ax,cx,rfl,hox,hgx,hb_u⟩
     refine ⟨_,rfl,?_⟩
     have hb_u':Below v3.heap.size v3 u1:=hbA.trans (hb_u.mono hbA.size)
     have rz:=(row_new v3 #[.slice none 0 0,.int .i64 0,.int .i64 0] 90).drew.below hb_u
     have z0:=rz.cell 0 _ rfl
     have z1:=rz.cell 1 _ rfl
     have z2:=rz.cell 2 _ rfl
     have y0:=rz.froz 0 (by simp)
     have y1:=rz.froz 1 (by simp)
     have y2:=rz.froz 2 (by simp)
     have zl:=rz.lt
     have hgn:∀ g,blk ax es.length=some g->v3.heap.size<g:=fun g hg=>by have:=hgx g hg;simp at this;omega
     refine hKq.out _ _ (HK.out _ hb_u') (fun hHd7=>?_)
     clear hKq Kq
     try simp only [PS]
     refine RD (i:=14) rfl (fun Kq hKq=>?_)
     go_simp
     have hb_s:Below v3.heap.size v3 (((u1.setCell ⟨v3.heap.size,0,none⟩ (.slice ax es.length cx)).setCell ⟨v3.heap.size,1,none⟩ (.int .i64 U)).setCell ⟨v3.heap.size,2,none⟩ (.int .i64 L)):=((hb_u'.setCell (Nat.le_refl _) _).setCell (Nat.le_refl _) _).setCell (Nat.le_refl _) _
     refine hKq.out _ _ (HK.out _ hb_s) (fun hHd8=>?_)
     clear hKq Kq
     try simp only [PS]
     refine wpAnyH_done (by kernel_rfl) ?_ _
     go_wp2_with fail
     go_meet
     refine ⟨v3.heap.size,ax,cx,rfl,((rz.set 0 (by simp) _).set 1 (by simp) _).set 2 (by simp) _,Nat.le_refl _,?_,fun g hg=>Nat.le_of_lt (hgn g hg),hb_s⟩
     iterate 3 (refine OwnS.setF ?_ _ (fun g hg hn=>by have:=hgn g (by subst hg;exact blk_pos _ _ _ (strs_neO hn));show v3.heap.size≠g;omega) _)
     exact hox
   ·go_simp
    have hbA:Below v3.heap.size v3 (v3.alloc (.cells #[.slice none 0 0,.int .i64 0,.int .i64 0] 90)).drew:=((Below.refl _ _).alloc (Nat.le_refl _) _).drew
    refine hKq.out _ _ (HK.out _ hbA) (fun hHd9=>?_)
    clear hKq Kq
    try simp only [PS]
    refine RD (i:=6) rfl (fun Kq hKq=>?_)
    refine step_call (by rfl) 65 #[.int .i64 (ss.length:Int)] (by go_simp) (HH.out _) ?_
    rintro e wz ⟨rfl,rfl⟩
    refine ⟨_,rfl,?_⟩
    refine hKq.out _ _ hHd9 (fun _=>?_)
    clear hKq Kq
    try simp only [PS]
    refine RD (i:=12) rfl (fun Kq hKq=>?_)
    refine step_call (by rfl) 63 #[.agg #[.slice a ss.length c,.slice a' ws.length c'],.int .i64 q,.int .i64 Q,.int .i64 F,.int .i64 R,.int .i64 n] (by go_simp) (HSC.out _ ((h.below hE).below hbA) ((h'.below hE).below hbA) (hE.trans (Below.mono hbA hE.size))) ?_
    rintro e u1 ⟨ax,cx,rfl,hox,hgx,hb_u⟩
    refine ⟨_,rfl,?_⟩
    have hb_u':Below v3.heap.size v3 u1:=hbA.trans (hb_u.mono hbA.size)
    have rz:=(row_new v3 #[.slice none 0 0,.int .i64 0,.int .i64 0] 90).drew.below hb_u
    have z0:=rz.cell 0 _ rfl
    have z1:=rz.cell 1 _ rfl
    have z2:=rz.cell 2 _ rfl
    have y0:=rz.froz 0 (by simp)
    have y1:=rz.froz 1 (by simp)
    have y2:=rz.froz 2 (by simp)
    have zl:=rz.lt
    have hgn:∀ g,blk ax es.length=some g->v3.heap.size<g:=fun g hg=>by have:=hgx g hg;simp at this;omega
    refine hKq.out _ _ (HK.out _ hb_u') (fun hHd11=>?_)
    clear hKq Kq
    try simp only [PS]
    refine RD (i:=14) rfl (fun Kq hKq=>?_)
    go_simp
    have hb_s:Below v3.heap.size v3 (((u1.setCell ⟨v3.heap.size,0,none⟩ (.slice ax es.length cx)).setCell ⟨v3.heap.size,1,none⟩ (.int .i64 U)).setCell ⟨v3.heap.size,2,none⟩ (.int .i64 L)):=((hb_u'.setCell (Nat.le_refl _) _).setCell (Nat.le_refl _) _).setCell (Nat.le_refl _) _
    refine hKq.out _ _ (HK.out _ hb_s) (fun hHd12=>?_)
    clear hKq Kq
    try simp only [PS]
    refine wpAnyH_done (by kernel_rfl) ?_ _
    go_wp2_with fail
    go_meet
    refine ⟨v3.heap.size,ax,cx,rfl,((rz.set 0 (by simp) _).set 1 (by simp) _).set 2 (by simp) _,Nat.le_refl _,?_,fun g hg=>Nat.le_of_lt (hgn g hg),hb_s⟩
    iterate 3 (refine OwnS.setF ?_ _ (fun g hg hn=>by have:=hgn g (by subst hg;exact blk_pos _ _ _ (strs_neO hn));show v3.heap.size≠g;omega) _)
    exact hox
  ·go_simp
   have hbA:Below v3.heap.size v3 (v3.alloc (.cells #[.slice none 0 0,.int .i64 0,.int .i64 0] 90)).drew:=((Below.refl _ _).alloc (Nat.le_refl _) _).drew
   refine hKq.out _ _ (HK.out _ hbA) (fun hHd13=>?_)
   clear hKq Kq
   try simp only [PS]
   refine RD (i:=4) rfl (fun Kq hKq=>?_)
   refine step_call (by rfl) 64 #[.int .i64 (ss.length:Int),.int .i64 H] (by go_simp) (HB.out _) ?_
   rintro e wz ⟨rfl,rfl⟩
   refine ⟨_,rfl,?_⟩
   refine hKq.out _ _ hHd13 (fun _=>?_)
   clear hKq Kq
   try simp only [PS]
   refine RD (i:=6) rfl (fun Kq hKq=>?_)
   refine step_call (by rfl) 65 #[.int .i64 (ss.length:Int)] (by go_simp) (HH.out _) ?_
   rintro e wz ⟨rfl,rfl⟩
   refine ⟨_,rfl,?_⟩
   refine hKq.out _ _ hHd13 (fun _=>?_)
   clear hKq Kq
   try simp only [PS]
   refine RD (i:=12) rfl (fun Kq hKq=>?_)
   refine step_call (by rfl) 63 #[.agg #[.slice a ss.length c,.slice a' ws.length c'],.int .i64 q,.int .i64 Q,.int .i64 F,.int .i64 R,.int .i64 n] (by go_simp) (HSC.out _ ((h.below hE).below hbA) ((h'.below hE).below hbA) (hE.trans (Below.mono hbA hE.size))) ?_
   rintro e u1 ⟨ax,cx,rfl,hox,hgx,hb_u⟩
   refine ⟨_,rfl,?_⟩
   have hb_u':Below v3.heap.size v3 u1:=hbA.trans (hb_u.mono hbA.size)
   have rz:=(row_new v3 #[.slice none 0 0,.int .i64 0,.int .i64 0] 90).drew.below hb_u
   have z0:=rz.cell 0 _ rfl
   have z1:=rz.cell 1 _ rfl
   have z2:=rz.cell 2 _ rfl
   have y0:=rz.froz 0 (by simp)
   have y1:=rz.froz 1 (by simp)
   have y2:=rz.froz 2 (by simp)
   have zl:=rz.lt
   have hgn:∀ g,blk ax es.length=some g->v3.heap.size<g:=fun g hg=>by have:=hgx g hg;simp at this;omega
   refine hKq.out _ _ (HK.out _ hb_u') (fun hHd16=>?_)
   clear hKq Kq
   try simp only [PS]
   refine RD (i:=14) rfl (fun Kq hKq=>?_)
   go_simp
   have hb_s:Below v3.heap.size v3 (((u1.setCell ⟨v3.heap.size,0,none⟩ (.slice ax es.length cx)).setCell ⟨v3.heap.size,1,none⟩ (.int .i64 U)).setCell ⟨v3.heap.size,2,none⟩ (.int .i64 L)):=((hb_u'.setCell (Nat.le_refl _) _).setCell (Nat.le_refl _) _).setCell (Nat.le_refl _) _
   refine hKq.out _ _ (HK.out _ hb_s) (fun hHd17=>?_)
   clear hKq Kq
   try simp only [PS]
   refine wpAnyH_done (by kernel_rfl) ?_ _
   go_wp2_with fail
   go_meet
   refine ⟨v3.heap.size,ax,cx,rfl,((rz.set 0 (by simp) _).set 1 (by simp) _).set 2 (by simp) _,Nat.le_refl _,?_,fun g hg=>Nat.le_of_lt (hgn g hg),hb_s⟩
   iterate 3 (refine OwnS.setF ?_ _ (fun g hg hn=>by have:=hgn g (by subst hg;exact blk_pos _ _ _ (strs_neO hn));show v3.heap.size≠g;omega) _)
   exact hox
 case rest =>
 obtain ⟨BX,ax,cx,rfl,hrx,hBX,hox,hgx,hb⟩:=hcut
 have dX:Dep wc v3.heap.size wc.heap.size (fun W=>OwnS W ax (es.map Value.string)):=dep_own hox strs_neO hgx
 have bX:Dep wc v3.heap.size wc.heap.size (fun W=>Row W BX [.slice ax es.length cx,.int .i64 U,.int .i64 L]):=dep_row hrx hBX hrx.lt (Nat.le_refl _)
 clear hgx hox hrx
 have s_wc:v3.heap.size<=wc.heap.size:=hb.size
 replace bA:=bA.below hb
 replace bD:=bD.below hb
 replace bR:=bR.below hb
 replace hE:=hE.trans (hb.mono hE.size)
 clear hb
 have q_bX_0:=bX.now.cell 0 _ rfl
 have q_bX_1:=bX.now.cell 1 _ rfl
 have q_bX_2:=bX.now.cell 2 _ rfl
 have q_bX_l:=bX.now.lt
 go_wp2_with fail
 clear q_bX_0 q_bX_1 q_bX_2 q_bX_l
 have HFX:=hid (HFD.out _ cx _ dX.now.strs)
 cases hf:foldE es [] with
 | none =>
  rw [hf] at HFX
  simp only [Option.getD_none,Option.isSome_none,List.length_nil] at HFX
  have HDD:=hid (HD2.out hf)
  clear hf HD2 HD3 HD4 HD5 HD6 HMO
  refine (HFX.out).mono ?_
  rintro e v4 ⟨a6,c6,rfl,_,_,_,hb⟩
  have s_v4:wc.heap.size<=v4.heap.size:=hb.size
  replace bA:=bA.below hb
  replace bD:=bD.below hb
  replace bR:=bR.below hb
  replace dX:=dX.below hb
  replace bX:=bX.below hb
  replace hE:=hE.trans (hb.mono hE.size)
  clear hb
  have q_bD_0:=bD.now.cell 0 _ rfl
  have f_bD_0:=bD.now.froz 0 (by simp)
  have q_bD_1:=bD.now.cell 1 _ rfl
  have f_bD_1:=bD.now.froz 1 (by simp)
  have q_bD_2:=bD.now.cell 2 _ rfl
  have f_bD_2:=bD.now.froz 2 (by simp)
  have q_bD_3:=bD.now.cell 3 _ rfl
  have f_bD_3:=bD.now.froz 3 (by simp)
  have q_bD_4:=bD.now.cell 4 _ rfl
  have f_bD_4:=bD.now.froz 4 (by simp)
  have q_bD_5:=bD.now.cell 5 _ rfl
  have f_bD_5:=bD.now.froz 5 (by simp)
  have q_bD_6:=bD.now.cell 6 _ rfl
  have f_bD_6:=bD.now.froz 6 (by simp)
  have q_bD_7:=bD.now.cell 7 _ rfl
  have f_bD_7:=bD.now.froz 7 (by simp)
  have q_bD_8:=bD.now.cell 8 _ rfl
  have f_bD_8:=bD.now.froz 8 (by simp)
  have q_bD_9:=bD.now.cell 9 _ rfl
  have f_bD_9:=bD.now.froz 9 (by simp)
  have q_bD_10:=bD.now.cell 10 _ rfl
  have f_bD_10:=bD.now.froz 10 (by simp)
  have q_bD_11:=bD.now.cell 11 _ rfl
  have f_bD_11:=bD.now.froz 11 (by simp)
  have q_bD_l:=bD.now.lt
  go_wp2_with fail
  rw [show D=noD 2 from HDD.out]
  refine bodyPost_ret (v:=dnV (noD 2) none 0 none 0) (by simp [results,Tryz.results25,go_sem,dnV,noD,q_bD_l,q_bD_0,q_bD_1,q_bD_2,q_bD_3,q_bD_4,q_bD_5,q_bD_6,q_bD_7,q_bD_8,q_bD_9,q_bD_10,q_bD_11]) rfl (dn_no rfl ?_)
  refine (fun hbz=>Below.alloc hbz (Below.size hbz) _) ?_
  iterate 12 (refine Below.setCell ?_ (by show w.heap.size<=w.heap.size+1;omega) _)
  exact hE
 | some rs =>
  rw [hf] at HFX
  simp only [Option.getD_some,Option.isSome_some] at HFX
  have hok:=foldE_ok es [] stateOk_nil rs hf
  have hsz:=stateOk_sizes hok
  have HSZ:=hid hsz.2
  have hrl:=hsz.1
  have HD3':=hid (HD3.out rs hf)
  have HD4':=hid (HD4.out rs hf)
  have HD5':=hid (HD5.out rs hf)
  have HD6':=hid (HD6.out rs hf)
  have HMO':=hid (HMO.out rs)
  have HRM:=hid (fun ay cy wx k1 k2=>hasroom_i n ss.length (L+1) T H F R U 0 ay rs cy wx k1 k2 (by omega) HSZ.out)
  have HLF:=hid (fun ay cy wx=>left_i n ss.length (L+1) T H F R U 0 ay rs.length cy wx (by omega) (by omega))
  unfold storeV at HRM HLF
  rw [<-HQ.out] at HRM HLF
  obtain ⟨r,HRR⟩:∃ r,Hid (r=roomOf (snapOf rs) n):=⟨_,hid rfl⟩
  rw [<-HRR.out] at HRM HD4' HD5' HD6' HMO'
  clear hf hok hsz HD2 HD3 HD4 HD5 HD6 HMO HFD
  refine (HFX.out).mono ?_
  rintro e v4 ⟨a6,c6,rfl,hc6,ho6,hg6,hb⟩
  have s_v4:wc.heap.size<=v4.heap.size:=hb.size
  replace bA:=bA.below hb
  replace bD:=bD.below hb
  replace bR:=bR.below hb
  replace dX:=dX.below hb
  replace bX:=bX.below hb
  replace hE:=hE.trans (hb.mono hE.size)
  have dT:Dep v4 wc.heap.size v4.heap.size (fun W=>OwnS W a6 (prcells rs)):=dep_own ho6 prcells_neO hg6
  have lo6:∀ g,blk a6 rs.length=some g->wc.heap.size<=g/\g<v4.heap.size:=fun g hh=>⟨hg6 g hh,ho6.lt _ prcells_neP g hh⟩
  clear ho6 hg6
  clear hb
  have q_bX_0:=bX.now.cell 0 _ rfl
  have q_bX_1:=bX.now.cell 1 _ rfl
  have q_bX_2:=bX.now.cell 2 _ rfl
  have q_bX_l:=bX.now.lt
  have q_bR_0:=bR.now.cell 0 _ rfl
  have q_bR_1:=bR.now.cell 1 _ rfl
  have q_bR_2:=bR.now.cell 2 _ rfl
  have q_bR_3:=bR.now.cell 3 _ rfl
  have q_bR_l:=bR.now.lt
  go_upto_region 10 with fail
  clear q_bX_0 q_bX_1 q_bX_2 q_bX_l q_bR_0 q_bR_1 q_bR_2 q_bR_3 q_bR_l
  obtain ⟨vt,et⟩:∃ x,x=(v4.alloc (.cells #[.slice a6 rs.length c6] 39)).alloc (.cells #[.int .i64 n,.int .i64 (ss.length:Int),.int .i64 (L+1),.int .i64 T,.int .i64 H,.int .i64 F,.int .i64 R,.int .i64 U,.int .i64 0,.slice a6 rs.length c6] 47):=⟨_,rfl⟩
  have hbt:Below v4.heap.size v4 vt:=by rw [et];exact ((Below.refl _ _).alloc (Nat.le_refl _) _).alloc (by simp) _
  have bS:Dep vt (v4.heap.size+1) (v4.heap.size+1+1) (fun W'=>Row W' (v4.heap.size+1) [.int .i64 n,.int .i64 (ss.length:Int),.int .i64 (L+1),.int .i64 T,.int .i64 H,.int .i64 F,.int .i64 R,.int .i64 U,.int .i64 0,.slice a6 rs.length c6]):=by rw [et];exact dep_row (row_at (w:=v4.alloc _) (by simp)) (Nat.le_refl _) (by omega) (by simp)
  have s_vt:v4.heap.size+1+1<=vt.heap.size:=by rw [et];simp
  rw [<-et]
  clear et
  have hb:=hbt
  clear hbt
  replace bA:=bA.below hb
  replace bD:=bD.below hb
  replace bR:=bR.below hb
  replace dX:=dX.below hb
  replace bX:=bX.below hb
  replace dT:=dT.below hb
  replace hE:=hE.trans (hb.mono hE.size)
  clear hb
  by_cases h4:60000<L+1
  case pos =>
   obtain ⟨q_bS_0,q_bS_1,q_bS_2,q_bS_3,q_bS_4,q_bS_5,q_bS_6,q_bS_7,q_bS_8,q_bS_9,q_bS_l⟩:=c10 bS.now
   have q_bD_0:=bD.now.cell 0 _ rfl
   have f_bD_0:=bD.now.froz 0 (by simp)
   have q_bD_1:=bD.now.cell 1 _ rfl
   have f_bD_1:=bD.now.froz 1 (by simp)
   have q_bD_2:=bD.now.cell 2 _ rfl
   have f_bD_2:=bD.now.froz 2 (by simp)
   have q_bD_3:=bD.now.cell 3 _ rfl
   have f_bD_3:=bD.now.froz 3 (by simp)
   have q_bD_4:=bD.now.cell 4 _ rfl
   have f_bD_4:=bD.now.froz 4 (by simp)
   have q_bD_5:=bD.now.cell 5 _ rfl
   have f_bD_5:=bD.now.froz 5 (by simp)
   have q_bD_6:=bD.now.cell 6 _ rfl
   have f_bD_6:=bD.now.froz 6 (by simp)
   have q_bD_7:=bD.now.cell 7 _ rfl
   have f_bD_7:=bD.now.froz 7 (by simp)
   have q_bD_8:=bD.now.cell 8 _ rfl
   have f_bD_8:=bD.now.froz 8 (by simp)
   have q_bD_9:=bD.now.cell 9 _ rfl
   have f_bD_9:=bD.now.froz 9 (by simp)
   have q_bD_10:=bD.now.cell 10 _ rfl
   have f_bD_10:=bD.now.froz 10 (by simp)
   have q_bD_11:=bD.now.cell 11 _ rfl
   have f_bD_11:=bD.now.froz 11 (by simp)
   have q_bD_l:=bD.now.lt
   go_wp2_with fail
   rw [show D=noD 3 from HD3'.out (by omega)]
   refine bodyPost_ret (v:=dnV (noD 3) none 0 none 0) (by simp [results,Tryz.results25,go_sem,dnV,noD,q_bD_l,q_bD_0,q_bD_1,q_bD_2,q_bD_3,q_bD_4,q_bD_5,q_bD_6,q_bD_7,q_bD_8,q_bD_9,q_bD_10,q_bD_11]) rfl (dn_no rfl ?_)
   iterate 12 (refine Below.setCell ?_ (by show w.heap.size<=w.heap.size+1;omega) _)
   exact hE
  have h4':L+1<=60000:=by omega
  obtain ⟨q_bS_0,q_bS_1,q_bS_2,q_bS_3,q_bS_4,q_bS_5,q_bS_6,q_bS_7,q_bS_8,q_bS_9,q_bS_l⟩:=c10 bS.now
  go_wp2_with fail
  clear q_bS_0 q_bS_1 q_bS_2 q_bS_3 q_bS_4 q_bS_5 q_bS_6 q_bS_7 q_bS_8 q_bS_9 q_bS_l
  refine (HRM.out _ _ _ dT.now.prs hc6).mono ?_
  rintro e v5 ⟨rfl,hb⟩
  have s_v5:vt.heap.size<=v5.heap.size:=hb.size
  replace bA:=bA.below hb
  replace bD:=bD.below hb
  replace bR:=bR.below hb
  replace dX:=dX.below hb
  replace bX:=bX.below hb
  replace dT:=dT.below hb
  replace bS:=bS.below hb
  replace hE:=hE.trans (hb.mono hE.size)
  clear hb
  by_cases h5:Q-1<r
  case pos =>
   rw [decide_eq_false (show ¬ r<=Q-1 by omega)]
   have q_bD_0:=bD.now.cell 0 _ rfl
   have f_bD_0:=bD.now.froz 0 (by simp)
   have q_bD_1:=bD.now.cell 1 _ rfl
   have f_bD_1:=bD.now.froz 1 (by simp)
   have q_bD_2:=bD.now.cell 2 _ rfl
   have f_bD_2:=bD.now.froz 2 (by simp)
   have q_bD_3:=bD.now.cell 3 _ rfl
   have f_bD_3:=bD.now.froz 3 (by simp)
   have q_bD_4:=bD.now.cell 4 _ rfl
   have f_bD_4:=bD.now.froz 4 (by simp)
   have q_bD_5:=bD.now.cell 5 _ rfl
   have f_bD_5:=bD.now.froz 5 (by simp)
   have q_bD_6:=bD.now.cell 6 _ rfl
   have f_bD_6:=bD.now.froz 6 (by simp)
   have q_bD_7:=bD.now.cell 7 _ rfl
   have f_bD_7:=bD.now.froz 7 (by simp)
   have q_bD_8:=bD.now.cell 8 _ rfl
   have f_bD_8:=bD.now.froz 8 (by simp)
   have q_bD_9:=bD.now.cell 9 _ rfl
   have f_bD_9:=bD.now.froz 9 (by simp)
   have q_bD_10:=bD.now.cell 10 _ rfl
   have f_bD_10:=bD.now.froz 10 (by simp)
   have q_bD_11:=bD.now.cell 11 _ rfl
   have f_bD_11:=bD.now.froz 11 (by simp)
   have q_bD_l:=bD.now.lt
   go_wp2_with fail
   rw [show D=noD 4 from HD4'.out (by omega) (by omega)]
   refine bodyPost_ret (v:=dnV (noD 4) none 0 none 0) (by simp [results,Tryz.results25,go_sem,dnV,noD,q_bD_l,q_bD_0,q_bD_1,q_bD_2,q_bD_3,q_bD_4,q_bD_5,q_bD_6,q_bD_7,q_bD_8,q_bD_9,q_bD_10,q_bD_11]) rfl (dn_no rfl ?_)
   iterate 12 (refine Below.setCell ?_ (by show w.heap.size<=w.heap.size+1;omega) _)
   exact hE
  have h5':r<=Q-1:=by omega
  rw [decide_eq_true h5']
  obtain ⟨q_bS_0,q_bS_1,q_bS_2,q_bS_3,q_bS_4,q_bS_5,q_bS_6,q_bS_7,q_bS_8,q_bS_9,q_bS_l⟩:=c10 bS.now
  go_wp2_with fail
  clear q_bS_0 q_bS_1 q_bS_2 q_bS_3 q_bS_4 q_bS_5 q_bS_6 q_bS_7 q_bS_8 q_bS_9 q_bS_l
  refine (HLF.out _ _ _).mono ?_
  rintro e v6 ⟨rfl,hb⟩
  have s_v6:v5.heap.size<=v6.heap.size:=hb.size
  replace bA:=bA.below hb
  replace bD:=bD.below hb
  replace bR:=bR.below hb
  replace dX:=dX.below hb
  replace bX:=bX.below hb
  replace dT:=dT.below hb
  replace bS:=bS.below hb
  replace hE:=hE.trans (hb.mono hE.size)
  clear hb
  by_cases h6:Q<=U
  case pos =>
   have h6e:Q-U=0:=by omega
   have hmo:=HMO'.out (by omega) (by omega)
   have HDM:=hid (HD5'.out (by omega) (by omega) (by omega))
   clear HD3' HD4' HD5' HD6' HMO'
   by_cases hfit:T+1<=1000000000/\F+hv ss.length<=999999000
   case neg =>
    have HMV:=hid (fun ay cy wx=>move_i_no n ss.length (L+1) T H F R U 0 ay rs cy wx hmo hfit)
    have hDD:D=noD 4:=by rw [HDM.out];unfold moveD;rw [if_neg (by unfold mvFit;simp;omega)]
    unfold storeV dnV noD at HMV
    simp only [List.length_nil] at HMV
    have HDD:=hid hDD
    clear hDD HDM hmo hfit
    obtain ⟨q_bS_0,q_bS_1,q_bS_2,q_bS_3,q_bS_4,q_bS_5,q_bS_6,q_bS_7,q_bS_8,q_bS_9,q_bS_l⟩:=c10 bS.now
    go_wp2_with fail
    clear q_bS_0 q_bS_1 q_bS_2 q_bS_3 q_bS_4 q_bS_5 q_bS_6 q_bS_7 q_bS_8 q_bS_9 q_bS_l
    refine (HMV.out _ _ _).mono ?_
    rintro e v7 ⟨rfl,hb⟩
    have s_v7:v6.heap.size<=v7.heap.size:=hb.size
    replace bA:=bA.below hb
    replace bD:=bD.below hb
    replace bR:=bR.below hb
    replace dX:=dX.below hb
    replace bX:=bX.below hb
    replace dT:=dT.below hb
    replace bS:=bS.below hb
    replace hE:=hE.trans (hb.mono hE.size)
    clear hb
    have q_bD_0:=bD.now.cell 0 _ rfl
    have f_bD_0:=bD.now.froz 0 (by simp)
    have q_bD_1:=bD.now.cell 1 _ rfl
    have f_bD_1:=bD.now.froz 1 (by simp)
    have q_bD_2:=bD.now.cell 2 _ rfl
    have f_bD_2:=bD.now.froz 2 (by simp)
    have q_bD_3:=bD.now.cell 3 _ rfl
    have f_bD_3:=bD.now.froz 3 (by simp)
    have q_bD_4:=bD.now.cell 4 _ rfl
    have f_bD_4:=bD.now.froz 4 (by simp)
    have q_bD_5:=bD.now.cell 5 _ rfl
    have f_bD_5:=bD.now.froz 5 (by simp)
    have q_bD_6:=bD.now.cell 6 _ rfl
    have f_bD_6:=bD.now.froz 6 (by simp)
    have q_bD_7:=bD.now.cell 7 _ rfl
    have f_bD_7:=bD.now.froz 7 (by simp)
    have q_bD_8:=bD.now.cell 8 _ rfl
    have f_bD_8:=bD.now.froz 8 (by simp)
    have q_bD_9:=bD.now.cell 9 _ rfl
    have f_bD_9:=bD.now.froz 9 (by simp)
    have q_bD_10:=bD.now.cell 10 _ rfl
    have f_bD_10:=bD.now.froz 10 (by simp)
    have q_bD_11:=bD.now.cell 11 _ rfl
    have f_bD_11:=bD.now.froz 11 (by simp)
    have q_bD_l:=bD.now.lt
    go_wp2_with fail
    rw [HDD.out]
    refine bodyPost_ret (v:=dnV (noD 4) none 0 none 0) (by simp [results,Tryz.results25,go_sem,dnV,noD,q_bD_l,q_bD_0,q_bD_1,q_bD_2,q_bD_3,q_bD_4,q_bD_5,q_bD_6,q_bD_7,q_bD_8,q_bD_9,q_bD_10,q_bD_11]) rfl (dn_no rfl ?_)
    iterate 12 (refine Below.setCell ?_ (by show w.heap.size<=w.heap.size+1;omega) _)
    exact hE
   obtain ⟨k,hk⟩:∃ k:Nat,n=(k:Int):=⟨n.toNat,by have:=HYES.out.2;omega⟩
   have hn18:=HYES.out.2
   have HMV:=hid (fun ay cy wx k1 k2=>move_i_ok ss.length (L+1) T H F R U 0 k (56-k) ay rs cy wx k1 k2 (by omega) HSZ.out (by omega) (by omega) (by omega) (by rw [<-hk];exact hmo) hfit)
   have hDD:D=mvD n ss.length (L+1) T H F rs:=by rw [HDM.out];unfold moveD;rw [if_pos (by unfold mvFit;simp;omega)]
   rw [<-hk,<-hDD] at HMV
   have hDr:D.rs=rs:=by rw [hDD];rfl
   clear hDD HDM hmo hfit hk hn18
   obtain ⟨C0,W0,S0,L0,T0,H0,F0,R0,U0,O0,ds,os⟩:=D
   simp only at hDr
   subst hDr
   unfold storeV at HMV
   unfold MvPost dnV at HMV
   simp only at HMV
   obtain ⟨q_bS_0,q_bS_1,q_bS_2,q_bS_3,q_bS_4,q_bS_5,q_bS_6,q_bS_7,q_bS_8,q_bS_9,q_bS_l⟩:=c10 bS.now
   go_wp2_with fail
   clear q_bS_0 q_bS_1 q_bS_2 q_bS_3 q_bS_4 q_bS_5 q_bS_6 q_bS_7 q_bS_8 q_bS_9 q_bS_l
   refine (HMV.out _ _ _ dT.now.prs hc6).mono ?_
   rintro e v7 ⟨bz,ez,rfl,hoz,hz2,hb⟩
   have s_v7:v6.heap.size<=v7.heap.size:=hb.size
   replace bA:=bA.below hb
   replace bD:=bD.below hb
   replace bR:=bR.below hb
   replace dX:=dX.below hb
   replace bX:=bX.below hb
   replace dT:=dT.below hb
   replace bS:=bS.below hb
   replace hE:=hE.trans (hb.mono hE.size)
   have HOZ:=hid hoz
   have s_z:v6.heap.size<=v7.heap.size:=hb.size
   clear hoz
   clear hb
   have q_bD_0:=bD.now.cell 0 _ rfl
   have f_bD_0:=bD.now.froz 0 (by simp)
   have q_bD_1:=bD.now.cell 1 _ rfl
   have f_bD_1:=bD.now.froz 1 (by simp)
   have q_bD_2:=bD.now.cell 2 _ rfl
   have f_bD_2:=bD.now.froz 2 (by simp)
   have q_bD_3:=bD.now.cell 3 _ rfl
   have f_bD_3:=bD.now.froz 3 (by simp)
   have q_bD_4:=bD.now.cell 4 _ rfl
   have f_bD_4:=bD.now.froz 4 (by simp)
   have q_bD_5:=bD.now.cell 5 _ rfl
   have f_bD_5:=bD.now.froz 5 (by simp)
   have q_bD_6:=bD.now.cell 6 _ rfl
   have f_bD_6:=bD.now.froz 6 (by simp)
   have q_bD_7:=bD.now.cell 7 _ rfl
   have f_bD_7:=bD.now.froz 7 (by simp)
   have q_bD_8:=bD.now.cell 8 _ rfl
   have f_bD_8:=bD.now.froz 8 (by simp)
   have q_bD_9:=bD.now.cell 9 _ rfl
   have f_bD_9:=bD.now.froz 9 (by simp)
   have q_bD_10:=bD.now.cell 10 _ rfl
   have f_bD_10:=bD.now.froz 10 (by simp)
   have q_bD_11:=bD.now.cell 11 _ rfl
   have f_bD_11:=bD.now.froz 11 (by simp)
   have q_bD_l:=bD.now.lt
   go_wp2_with fail
   have hn1:∀ g,a6=some ⟨g,0,none⟩->prcells ds≠[]->w.heap.size+1≠g:=fun g hg hne=>by have:=lo6 g (by subst hg;exact blk_pos _ _ _ (ne_of_prcells hne));omega
   have hn2:∀ g,bz=some ⟨g,0,none⟩->opcells os≠[]->w.heap.size+1≠g:=fun g hg hne=>by have:=hz2 g (by subst hg;exact blk_pos _ _ _ (ne_of_opcells hne));omega
   refine bodyPost_ret (v:=dnV ⟨C0,W0,S0,L0,T0,H0,F0,R0,U0,O0,ds,os⟩ a6 c6 bz ez) (by simp [results,Tryz.results25,go_sem,dnV,q_bD_0,q_bD_1,q_bD_2,q_bD_3,q_bD_4,q_bD_5,q_bD_6,q_bD_7,q_bD_8,q_bD_9,q_bD_10,q_bD_11]) rfl ⟨a6,c6,bz,ez,rfl,hc6,⟨?_,?_,?_⟩,?_,?_,?_⟩
   ·iterate 12 (refine OwnS.set' ?_ _ (fun g hg hne=>hn1 g hg hne) _)
    exact dT.now
   ·iterate 12 (refine OwnS.set' ?_ _ (fun g hg hne=>hn2 g hg hne) _)
    exact HOZ.out
   ·cases hb1:blk a6 ds.length with
    | none=>exact .inl hb1
    | some g =>
     cases hb2:blk bz os.length with
     | none=>exact .inr (.inl hb2)
     | some g' =>
      have k1:=lo6 g hb1
      have k2:=hz2 g' hb2
      refine .inr (.inr fun e=>?_)
      rw [show blk a6 _=some g from hb1,show blk bz _=some g' from hb2] at e
      cases e
      omega
   ·exact fun g hg=>by have:=lo6 g hg;omega
   ·exact fun g hg=>by have:=hz2 g hg;omega
   ·iterate 12 (refine Below.setCell ?_ (by show w.heap.size<=w.heap.size+1;omega) _)
    exact hE
  have h6n:¬ Q-U=0:=by omega
  have h6b:(Q-U == 0)=false:=by simp [h6n]
  have HMV:=hid (fun ay cy wx=>begin_i n ss.length (L+1) T H F R U 0 ay rs cy wx hH hF (by omega))
  have HDL:=hid (HD6'.out (by omega) (by omega) (by omega))
  rw [HQE.out] at HMV
  rw [<-HDL.out] at HMV
  have hDr:D.rs=rs:=by rw [HDL.out]
  clear HDL HD3' HD4' HD5' HD6' HMO'
  obtain ⟨C0,W0,S0,L0,T0,H0,F0,R0,U0,O0,ds,os⟩:=D
  simp only at hDr
  subst hDr
  unfold storeV at HMV
  unfold MvPost dnV at HMV
  simp only at HMV
  obtain ⟨q_bS_0,q_bS_1,q_bS_2,q_bS_3,q_bS_4,q_bS_5,q_bS_6,q_bS_7,q_bS_8,q_bS_9,q_bS_l⟩:=c10 bS.now
  go_wp2_with fail
  clear q_bS_0 q_bS_1 q_bS_2 q_bS_3 q_bS_4 q_bS_5 q_bS_6 q_bS_7 q_bS_8 q_bS_9 q_bS_l
  refine (HMV.out _ _ _).mono ?_
  rintro e v7 ⟨bz,ez,rfl,hoz,hz2,hb⟩
  have s_v7:v6.heap.size<=v7.heap.size:=hb.size
  replace bA:=bA.below hb
  replace bD:=bD.below hb
  replace bR:=bR.below hb
  replace dX:=dX.below hb
  replace bX:=bX.below hb
  replace dT:=dT.below hb
  replace bS:=bS.below hb
  replace hE:=hE.trans (hb.mono hE.size)
  have HOZ:=hid hoz
  have s_z:v6.heap.size<=v7.heap.size:=hb.size
  clear hoz
  clear hb
  have q_bD_0:=bD.now.cell 0 _ rfl
  have f_bD_0:=bD.now.froz 0 (by simp)
  have q_bD_1:=bD.now.cell 1 _ rfl
  have f_bD_1:=bD.now.froz 1 (by simp)
  have q_bD_2:=bD.now.cell 2 _ rfl
  have f_bD_2:=bD.now.froz 2 (by simp)
  have q_bD_3:=bD.now.cell 3 _ rfl
  have f_bD_3:=bD.now.froz 3 (by simp)
  have q_bD_4:=bD.now.cell 4 _ rfl
  have f_bD_4:=bD.now.froz 4 (by simp)
  have q_bD_5:=bD.now.cell 5 _ rfl
  have f_bD_5:=bD.now.froz 5 (by simp)
  have q_bD_6:=bD.now.cell 6 _ rfl
  have f_bD_6:=bD.now.froz 6 (by simp)
  have q_bD_7:=bD.now.cell 7 _ rfl
  have f_bD_7:=bD.now.froz 7 (by simp)
  have q_bD_8:=bD.now.cell 8 _ rfl
  have f_bD_8:=bD.now.froz 8 (by simp)
  have q_bD_9:=bD.now.cell 9 _ rfl
  have f_bD_9:=bD.now.froz 9 (by simp)
  have q_bD_10:=bD.now.cell 10 _ rfl
  have f_bD_10:=bD.now.froz 10 (by simp)
  have q_bD_11:=bD.now.cell 11 _ rfl
  have f_bD_11:=bD.now.froz 11 (by simp)
  have q_bD_l:=bD.now.lt
  go_wp2_with fail
  have hn1:∀ g,a6=some ⟨g,0,none⟩->prcells ds≠[]->w.heap.size+1≠g:=fun g hg hne=>by have:=lo6 g (by subst hg;exact blk_pos _ _ _ (ne_of_prcells hne));omega
  have hn2:∀ g,bz=some ⟨g,0,none⟩->opcells os≠[]->w.heap.size+1≠g:=fun g hg hne=>by have:=hz2 g (by subst hg;exact blk_pos _ _ _ (ne_of_opcells hne));omega
  refine bodyPost_ret (v:=dnV ⟨C0,W0,S0,L0,T0,H0,F0,R0,U0,O0,ds,os⟩ a6 c6 bz ez) (by simp [results,Tryz.results25,go_sem,dnV,q_bD_0,q_bD_1,q_bD_2,q_bD_3,q_bD_4,q_bD_5,q_bD_6,q_bD_7,q_bD_8,q_bD_9,q_bD_10,q_bD_11]) rfl ⟨a6,c6,bz,ez,rfl,hc6,⟨?_,?_,?_⟩,?_,?_,?_⟩
  ·iterate 12 (refine OwnS.set' ?_ _ (fun g hg hne=>hn1 g hg hne) _)
   exact dT.now
  ·iterate 12 (refine OwnS.set' ?_ _ (fun g hg hne=>hn2 g hg hne) _)
   exact HOZ.out
  ·cases hb1:blk a6 ds.length with
   | none=>exact .inl hb1
   | some g =>
    cases hb2:blk bz os.length with
    | none=>exact .inr (.inl hb2)
    | some g' =>
     have k1:=lo6 g hb1
     have k2:=hz2 g' hb2
     refine .inr (.inr fun e=>?_)
     rw [show blk a6 _=some g from hb1,show blk bz _=some g' from hb2] at e
     cases e
     omega
  ·exact fun g hg=>by have:=lo6 g hg;omega
  ·exact fun g hg=>by have:=hz2 g hg;omega
  ·iterate 12 (refine Below.setCell ?_ (by show w.heap.size<=w.heap.size+1;omega) _)
   exact hE
end Go.Proofs.YtcoegjnjjdndjaaGreatDoor
