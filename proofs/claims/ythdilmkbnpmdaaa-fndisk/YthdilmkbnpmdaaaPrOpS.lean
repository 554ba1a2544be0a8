import Derived.Test.YthdilmkbnpmdaaaPrG46
import Derived.Test.YthdilmkbnpmdaaaPrMvS
import Derived.Test.YthdilmkbnpmdaaaPrScS
set_option maxHeartbeats 16000000
namespace Go.Proofs.Ythdilmkbnpmdaaa
open Go.RowKit
set_option linter.unusedVariables false
set_option linter.unusedSimpArgs false
set_option maxRecDepth 8000
theorem i64_idO (x:Int) (h0:-9223372036854775808<=x) (h1:x<=9223372036854775807):IntKind.i64.wrap x=x:=by
 simp [IntKind.wrap,IntKind.bits,IntKind.signed]
 omega
theorem prcells_neO {l:List Pr} (h:prcells l≠[]):l.length≠0:=fun e=>h (by rw [List.eq_nil_of_length_eq_zero e];rfl)
theorem prcells_neP {l:List Pr} (h:l.length≠0):prcells l≠[]:=fun e=>h (by have:=congrArg List.length e;rw [prcells_length,List.length_nil] at this;omega)
theorem strs_neO {l:List ByteArray} (h:l.map Value.string≠[]):l.length≠0:=fun e=>h (by rw [List.eq_nil_of_length_eq_zero e];rfl)
theorem open_s (a:Option Addr) (ss:List ByteArray) (c:Nat) (a':Option Addr) (ws:List (Int×ByteArray)) (c':Nat) (n:Int) (w:World) (h:Strs w a ss) (h':Wrs w a' ws) (hl:ss.length<=1048576) (hl':ws.length<=1048576) (hs:∀ s∈ss,s.size<=1048576) (hs':∀ x∈ws,x.2.size<=1048576) :
  Calls Try.prog 64 #[diskV a ss.length c a' ws.length c',.int .i64 n] w fun x w'=>DnPost w w' x (openD ss ws n):=by
 have HV:=hid (fun (wx:World) k1 k2=>valid_s a ss c a' ws c' wx k1 k2 hl hl' hs hs')
 obtain ⟨D,HD⟩:∃ D,Hid (D=openD ss ws n):=⟨_,hid rfl⟩
 rw [<-HD.out]
 by_cases hyes:diskOk ss ws=true/\1<=n/\n<=8
 case neg =>
  have HNO:=hid hyes
  cases hok:diskOk ss ws with
  | false =>
   rw [hok] at HV
   clear hok hyes
   go_enter Try.func64,Try.ntmps64
   go_wp2_with fail
   obtain ⟨v0,e0⟩:∃ x,x=(w.alloc (.cells #[.slice a ss.length c,.slice a' ws.length c'] 26)).alloc (.cells #[.int .i64 0,.int .i64 0,.int .i64 0,.int .i64 0,.int .i64 0,.int .i64 0,.int .i64 0,.int .i64 0,.int .i64 0,.int .i64 0,.slice none 0 0,.slice none 0 0] 103):=⟨_,rfl⟩
   have hE:Below w.heap.size w v0:=by rw [e0];exact ((Below.refl _ _).alloc (Nat.le_refl _) _).alloc (by simp) _
   have s_v0:w.heap.size+1+1<=v0.heap.size:=by rw [e0];simp
   have bA:Dep v0 w.heap.size (w.heap.size+1) (fun W'=>Row W' w.heap.size [.slice a ss.length c,.slice a' ws.length c']):=by rw [e0];exact (dep_box w _ _).below ((Below.refl _ _).alloc (Nat.le_refl _) _)
   have bD:Dep v0 (w.heap.size+1) (w.heap.size+1+1) (fun W'=>Row W' (w.heap.size+1) [.int .i64 0,.int .i64 0,.int .i64 0,.int .i64 0,.int .i64 0,.int .i64 0,.int .i64 0,.int .i64 0,.int .i64 0,.int .i64 0,.slice none 0 0,.slice none 0 0]):=by rw [e0];exact dep_row (row_at (w:=w.alloc _) (by simp)) (Nat.le_refl _) (by omega) (by simp)
   rw [<-e0]
   clear e0
   refine (HV.out _ (h.below hE) (h'.below hE)).mono ?_
   rintro e v1 ⟨rfl,hb⟩
   have s_v1:v0.heap.size<=v1.heap.size:=hb.size
   replace bA:=bA.below hb
   replace bD:=bD.below hb
   replace hE:=hE.trans (hb.mono hE.size)
   clear hb
   obtain ⟨q_bD_0,q_bD_1,q_bD_2,q_bD_3,q_bD_4,q_bD_5,q_bD_6,q_bD_7,q_bD_8,q_bD_9,q_bD_10,q_bD_11⟩:=bD.now.k12
   obtain ⟨f_bD_0,f_bD_1,f_bD_2,f_bD_3,f_bD_4,f_bD_5,f_bD_6,f_bD_7,f_bD_8,f_bD_9,f_bD_10,f_bD_11⟩:=bD.now.z12
   have q_bD_l:=bD.now.lt
   go_wp2_with fail
   rw [show D=noD 1 from HD.out.trans (openD_1 HNO.out)]
   refine bodyPost_ret (v:=dnV (noD 1) none 0 none 0) (by simp [results,Try.results64,go_sem,dnV,noD,q_bD_l,q_bD_0,q_bD_1,q_bD_2,q_bD_3,q_bD_4,q_bD_5,q_bD_6,q_bD_7,q_bD_8,q_bD_9,q_bD_10,q_bD_11]) rfl (dn_no rfl ?_)
   iterate 12 (refine Below.setCell ?_ (by show w.heap.size<=w.heap.size+1;omega) _)
   exact hE
  | true =>
   have hd:decide (1<=n/\n<=8)=false:=decide_eq_false (fun hh=>hyes ⟨hok,hh⟩)
   rw [hok] at HV
   clear hok hyes
   go_enter Try.func64,Try.ntmps64
   go_wp2_with fail
   obtain ⟨v0,e0⟩:∃ x,x=(w.alloc (.cells #[.slice a ss.length c,.slice a' ws.length c'] 26)).alloc (.cells #[.int .i64 0,.int .i64 0,.int .i64 0,.int .i64 0,.int .i64 0,.int .i64 0,.int .i64 0,.int .i64 0,.int .i64 0,.int .i64 0,.slice none 0 0,.slice none 0 0] 103):=⟨_,rfl⟩
   have hE:Below w.heap.size w v0:=by rw [e0];exact ((Below.refl _ _).alloc (Nat.le_refl _) _).alloc (by simp) _
   have s_v0:w.heap.size+1+1<=v0.heap.size:=by rw [e0];simp
   have bA:Dep v0 w.heap.size (w.heap.size+1) (fun W'=>Row W' w.heap.size [.slice a ss.length c,.slice a' ws.length c']):=by rw [e0];exact (dep_box w _ _).below ((Below.refl _ _).alloc (Nat.le_refl _) _)
   have bD:Dep v0 (w.heap.size+1) (w.heap.size+1+1) (fun W'=>Row W' (w.heap.size+1) [.int .i64 0,.int .i64 0,.int .i64 0,.int .i64 0,.int .i64 0,.int .i64 0,.int .i64 0,.int .i64 0,.int .i64 0,.int .i64 0,.slice none 0 0,.slice none 0 0]):=by rw [e0];exact dep_row (row_at (w:=w.alloc _) (by simp)) (Nat.le_refl _) (by omega) (by simp)
   rw [<-e0]
   clear e0
   refine (HV.out _ (h.below hE) (h'.below hE)).mono ?_
   rintro e v1 ⟨rfl,hb⟩
   have s_v1:v0.heap.size<=v1.heap.size:=hb.size
   replace bA:=bA.below hb
   replace bD:=bD.below hb
   replace hE:=hE.trans (hb.mono hE.size)
   clear hb
   have q_bA_0:=bA.now.cell 0 _ rfl
   have q_bA_1:=bA.now.cell 1 _ rfl
   have q_bA_l:=bA.now.lt
   obtain ⟨q_bD_0,q_bD_1,q_bD_2,q_bD_3,q_bD_4,q_bD_5,q_bD_6,q_bD_7,q_bD_8,q_bD_9,q_bD_10,q_bD_11⟩:=bD.now.k12
   obtain ⟨f_bD_0,f_bD_1,f_bD_2,f_bD_3,f_bD_4,f_bD_5,f_bD_6,f_bD_7,f_bD_8,f_bD_9,f_bD_10,f_bD_11⟩:=bD.now.z12
   have q_bD_l:=bD.now.lt
   go_wp2_with (go_at_call 50;refine (width_s _ _).mono ?_;rw [hd];rintro e wz ⟨rfl,hwz⟩;rw [hwz];clear hwz wz)
   rw [show D=noD 1 from HD.out.trans (openD_1 HNO.out)]
   refine bodyPost_ret (v:=dnV (noD 1) none 0 none 0) (by simp [results,Try.results64,go_sem,dnV,noD,q_bD_l,q_bD_0,q_bD_1,q_bD_2,q_bD_3,q_bD_4,q_bD_5,q_bD_6,q_bD_7,q_bD_8,q_bD_9,q_bD_10,q_bD_11]) rfl (dn_no rfl ?_)
   iterate 12 (refine Below.setCell ?_ (by show w.heap.size<=w.heap.size+1;omega) _)
   exact hE
 have hd:decide (1<=n/\n<=8)=true:=decide_eq_true hyes.2
 rw [hyes.1] at HV
 have hg:=frD_good hyes
 have hxr:=opX_rng hyes
 obtain ⟨⟨hn1,hn2,hn3⟩,_,_⟩:=diskOk_of hyes.1
 have hQ:=hv_yes (S:=(ss.length:Int)) (by omega)
 obtain ⟨T,H,F,R,hFR⟩:∃ T H F R,frD ss ws n=(T,H,F,R):=⟨_,_,_,_,rfl⟩
 obtain ⟨es,U,L,hX⟩:∃ es U L,opX ss ws n=(es,U,L):=⟨_,_,_,rfl⟩
 have hX':scD ss ws (2+H*hv ss.length) (hv ss.length) F R n=(es,U,L):=by rw [<-hX];unfold opX;rw [hFR]
 rw [hFR] at hg
 rw [hX] at hxr
 unfold rtGood at hg
 simp only at hg hxr
 obtain ⟨hT,hH,hF,hR⟩:=hg
 obtain ⟨hU,hL,hel,hes⟩:=hxr
 have HES:=hid hes
 clear hes
 have HFR:=hid (fun wx k1 k2=>fr_s a ss c a' ws c' n wx k1 k2 hl hl' hs hs')
 rw [hFR] at HFR
 simp only [rtW] at HFR
 have HSC:=hid (fun wx k1 k2=>(scan_s a ss c a' ws c' (2+H*hv ss.length) (hv ss.length) F R n wx k1 k2 hl hl' hs hs').mono (fun e w2 hh=>scpost_own hh))
 rw [hX'] at HSC
 simp only [scV] at HSC
 have HH:=hid (fun wx=>halves_s (ss.length:Int) wx)
 have HB:=hid (fun wx=>base_s (ss.length:Int) H hH.1 hH.2 wx)
 have HFD:=hid (fun ax cx wx k1=>fold_s ax es cx wx k1 (by omega) (fun e he=>by have:=HES.out e he;omega))
 unfold FdPost stV at HFD
 have HYES:=hid hyes
 have HFRe:=hid hFR
 have HXe:=hid hX
 clear hyes hFR hX hX'
 have HD2:Hid (foldE es []=none->D=noD 2):=fun hf=>HD.out.trans (openD_2 HYES.out HXe.out hf)
 have HD3:Hid (∀ rs,foldE es []=some rs->60000<L+1->D=noD 3):=fun rs hf h4=>HD.out.trans (openD_3 HYES.out HXe.out hf h4)
 have HD4:Hid (∀ rs,foldE es []=some rs->¬ 60000<L+1->hv ss.length-1<roomOf (snapOf rs) n->D=noD 4):=fun rs hf h4 h5=>HD.out.trans (openD_4 HYES.out HXe.out hf h4 h5)
 have HD5:Hid (∀ rs,foldE es []=some rs->¬ 60000<L+1->¬ hv ss.length-1<roomOf (snapOf rs) n->hv ss.length<=U->D=moveD n ss.length (L+1) T H F rs):=fun rs hf h4 h5 h6=>HD.out.trans (openD_5 HYES.out HFRe.out HXe.out hf h4 h5 h6)
 have HD6:Hid (∀ rs,foldE es []=some rs->¬ 60000<L+1->¬ hv ss.length-1<roomOf (snapOf rs) n->¬ hv ss.length<=U->D=⟨0,n,ss.length,L+1,T,H,F,R,U+1,0,rs,[(false,2+H*hv ss.length+U,formOf 3 (L+1) (F+U) ByteArray.empty n),(true,0,ByteArray.empty)]⟩):=fun rs hf h4 h5 h6=>HD.out.trans (openD_6 HYES.out HFRe.out HXe.out hf h4 h5 h6)
 have HMO:Hid (∀ rs,¬ 60000<L+1->¬ hv ss.length-1<roomOf (snapOf rs) n->mvOk n ss.length (L+1) T H F rs):=fun rs h4 h5=>⟨HYES.out.2,by omega,by omega,hT,hH,hF,by omega⟩
 clear HFRe HXe HD
 obtain ⟨Q,HQ⟩:∃ Q,Hid (Q=hv ss.length):=⟨_,hid rfl⟩
 obtain ⟨q,hq⟩:∃ q,q=2+H*Q:=⟨_,rfl⟩
 rw [<-HQ.out] at hQ hU HSC HH HB HD4 HD5 HD6 HMO
 rw [<-hq] at HSC HB HD6
 have hqb:2<=q/\q<=101:=by have:=half_mul hH (q:=Q) (by omega);omega
 clear hq
 have hwQ:IntKind.i64.wrap (Q-1)=Q-1:=i64_idO _ (by omega) (by omega)
 have hwL:IntKind.i64.wrap (L+1)=L+1:=i64_idO _ (by omega) (by omega)
 have hwU:IntKind.i64.wrap (U+1)=U+1:=i64_idO _ (by omega) (by omega)
 have hwF:IntKind.i64.wrap (F+U)=F+U:=i64_idO _ (by omega) (by omega)
 have hwq:IntKind.i64.wrap (q+U)=q+U:=i64_idO _ (by omega) (by omega)
 go_enter Try.func64,Try.ntmps64
 go_wp2_with fail
 obtain ⟨v0,e0⟩:∃ x,x=(w.alloc (.cells #[.slice a ss.length c,.slice a' ws.length c'] 26)).alloc (.cells #[.int .i64 0,.int .i64 0,.int .i64 0,.int .i64 0,.int .i64 0,.int .i64 0,.int .i64 0,.int .i64 0,.int .i64 0,.int .i64 0,.slice none 0 0,.slice none 0 0] 103):=⟨_,rfl⟩
 have hE:Below w.heap.size w v0:=by rw [e0];exact ((Below.refl _ _).alloc (Nat.le_refl _) _).alloc (by simp) _
 have s_v0:w.heap.size+1+1<=v0.heap.size:=by rw [e0];simp
 have bA:Dep v0 w.heap.size (w.heap.size+1) (fun W'=>Row W' w.heap.size [.slice a ss.length c,.slice a' ws.length c']):=by rw [e0];exact (dep_box w _ _).below ((Below.refl _ _).alloc (Nat.le_refl _) _)
 have bD:Dep v0 (w.heap.size+1) (w.heap.size+1+1) (fun W'=>Row W' (w.heap.size+1) [.int .i64 0,.int .i64 0,.int .i64 0,.int .i64 0,.int .i64 0,.int .i64 0,.int .i64 0,.int .i64 0,.int .i64 0,.int .i64 0,.slice none 0 0,.slice none 0 0]):=by rw [e0];exact dep_row (row_at (w:=w.alloc _) (by simp)) (Nat.le_refl _) (by omega) (by simp)
 rw [<-e0]
 clear e0
 refine (HV.out _ (h.below hE) (h'.below hE)).mono ?_
 rintro e v1 ⟨rfl,hb⟩
 have s_v1:v0.heap.size<=v1.heap.size:=hb.size
 replace bA:=bA.below hb
 replace bD:=bD.below hb
 replace hE:=hE.trans (hb.mono hE.size)
 clear hb
 have q_bA_0:=bA.now.cell 0 _ rfl
 have q_bA_1:=bA.now.cell 1 _ rfl
 have q_bA_l:=bA.now.lt
 go_wp2_with (first | (go_at_call 50;refine (width_s _ _).mono ?_;rw [hd];rintro e wz ⟨rfl,hwz⟩;rw [hwz];clear hwz wz) | (go_at_call 54;refine (HH.out _).mono ?_;rintro e wz ⟨rfl,hwz⟩;rw [hwz];clear hwz wz))
 clear q_bA_0 q_bA_1 q_bA_l
 refine (HFR.out _ (h.below hE) (h'.below hE)).mono ?_
 rintro e v2 ⟨rfl,hb⟩
 have s_v2:v1.heap.size<=v2.heap.size:=hb.size
 replace bA:=bA.below hb
 replace bD:=bD.below hb
 replace hE:=hE.trans (hb.mono hE.size)
 clear hb
 have q_bA_0:=bA.now.cell 0 _ rfl
 have q_bA_1:=bA.now.cell 1 _ rfl
 have q_bA_l:=bA.now.lt
 go_upto_region 6 with fail
 clear q_bA_0 q_bA_1 q_bA_l
 generalize e_v3:v2.alloc _=v3
 obtain ⟨hb,z_v3,bR⟩:=bx1 e_v3
 have s_v3:v2.heap.size+1<=v3.heap.size:=by omega
 clear e_v3 z_v3
 replace bA:=bA.below hb
 replace bD:=bD.below hb
 replace hE:=hE.trans (hb.mono hE.size)
 clear hb
 go_cut [8] from 30 to 41 (fun v7 wx=>∃ (BX:Nat) (ax:Option Addr) (cx:Nat),v7=.pointer (some ⟨BX,0,none⟩)/\Row wx BX [.slice ax es.length cx,.int .i64 U,.int .i64 L]/\v3.heap.size<=BX/\OwnS wx ax (es.map Value.string)/\(∀ g,blk ax es.length=some g->v3.heap.size<=g)/\Below v3.heap.size v3 wx)
 case first =>
  have HK:Hid (∀ W,Below v3.heap.size v3 W->W.cell? ⟨w.heap.size,0,none⟩=some (.slice a ss.length c)/\W.cell? ⟨w.heap.size,1,none⟩=some (.slice a' ws.length c')/\W.cell? ⟨v2.heap.size,1,none⟩=some (.int .i64 H)/\W.cell? ⟨v2.heap.size,2,none⟩=some (.int .i64 F)/\W.cell? ⟨v2.heap.size,3,none⟩=some (.int .i64 R)):=fun W hb=>⟨(bA.below hb).now.cell 0 _ rfl,(bA.below hb).now.cell 1 _ rfl,(bR.below hb).now.cell 1 _ rfl,(bR.below hb).now.cell 2 _ rfl,(bR.below hb).now.cell 3 _ rfl⟩
  refine wp_region_held_drew (S:=fun w'=>w'.cell? ⟨w.heap.size,0,none⟩=some (.slice a ss.length c)/\w'.cell? ⟨w.heap.size,1,none⟩=some (.slice a' ws.length c')/\w'.cell? ⟨v2.heap.size,1,none⟩=some (.int .i64 H)/\w'.cell? ⟨v2.heap.size,2,none⟩=some (.int .i64 F)/\w'.cell? ⟨v2.heap.size,3,none⟩=some (.int .i64 R)) (by kernel_rfl) (HK.out _ (Below.refl _ _).drew) (fun hHe=>?_)
  refine TY 0 (.agg #[.slice a ss.length c,.slice a' ws.length c']) rfl hHe ?_
  simp only [PS]
  refine TY 1 (.int .i64 (ss.length:Int)) rfl hHe ?_
  simp only [PS]
  refine TY 2 (.pointer (some ⟨v2.heap.size,1,none⟩)) rfl hHe ?_
  simp only [PS]
  refine TY 3 (.int .i64 H) rfl hHe ?_
  simp only [PS]
  refine TY 5 (.int .i64 Q) rfl hHe ?_
  simp only [PS]
  refine TY 6 (.pointer (some ⟨v2.heap.size,2,none⟩)) rfl hHe ?_
  simp only [PS]
  refine TY 7 (.int .i64 F) rfl hHe ?_
  simp only [PS]
  refine TY 8 (.pointer (some ⟨v2.heap.size,3,none⟩)) rfl hHe ?_
  simp only [PS]
  refine TY 9 (.int .i64 R) rfl hHe ?_
  simp only [PS]
  refine TY 10 (.int .i64 n) rfl hHe ?_
  simp only [PS]
  refine wpAnyH_ready (rs:=[4,12]) (by kernel_rfl) (by simp) ?_
  refine AllReadyH.cons rfl (fun Kq hKq=>?_) (AllReadyH.cons rfl (fun Kq hKq=>?_) AllReadyH.nil)
  ·refine step_call (by rfl) 59 #[.int .i64 (ss.length:Int),.int .i64 H] (by go_simp) (HB.out _) ?_
   rintro e wz ⟨rfl,rfl⟩
   refine ⟨_,rfl,?_⟩
   refine hKq.out _ _ hHe (fun _=>?_)
   try simp only [PS]
   refine wpAnyH_ready (rs:=[11,12]) (by kernel_rfl) (by simp) ?_
   refine AllReadyH.cons rfl (fun Kq hKq=>?_) (AllReadyH.cons rfl (fun Kq hKq=>?_) AllReadyH.nil)
   ·refine step_call (by rfl) 78 #[.agg #[.slice a ss.length c,.slice a' ws.length c'],.int .i64 q,.int .i64 Q,.int .i64 F,.int .i64 R,.int .i64 n] (by go_simp) (HSC.out _ ((h.below hE).below ((Below.refl _ _).drew)) ((h'.below hE).below ((Below.refl _ _).drew))) ?_
    rintro e u1 ⟨ax,cx,rfl,hox,hgx,hb_u⟩
    refine ⟨_,rfl,?_⟩
    have hb_u':Below v3.heap.size v3 u1:=(Below.refl _ _).drew.trans hb_u
    refine hKq.out _ _ (HK.out _ hb_u') (fun hHd2=>?_)
    try simp only [PS]
    refine RD 12 rfl (fun Kq hKq=>?_)
    go_simp
    refine hKq.out _ _ (HK.out _ (hb_u'.alloc hb_u'.size _)) (fun hHd3=>?_)
    try simp only [PS]
    refine RD 13 rfl (fun Kq hKq=>?_)
    go_simp
    refine hKq.out _ _ (HK.out _ (hb_u'.alloc hb_u'.size _)) (fun hHd4=>?_)
    try simp only [PS]
    refine DN ?_
    go_wp2_with fail
    go_meet
    exact ⟨u1.heap.size,ax,cx,rfl,row_new _ _ _,hb_u'.size,hox.below ((Below.refl _ _).alloc (Nat.le_refl _) _),hgx,hb_u'.alloc hb_u'.size _⟩
   ·go_simp
    have hbA:Below v3.heap.size v3 (v3.alloc (.cells #[.slice none 0 0,.int .i64 0,.int .i64 0] 140)).drew:=((Below.refl _ _).alloc (Nat.le_refl _) _).drew
    refine hKq.out _ _ (HK.out _ hbA) (fun hHd5=>?_)
    try simp only [PS]
    refine RD 11 rfl (fun Kq hKq=>?_)
    refine step_call (by rfl) 78 #[.agg #[.slice a ss.length c,.slice a' ws.length c'],.int .i64 q,.int .i64 Q,.int .i64 F,.int .i64 R,.int .i64 n] (by go_simp) (HSC.out _ ((h.below hE).below hbA) ((h'.below hE).below hbA)) ?_
    rintro e u1 ⟨ax,cx,rfl,hox,hgx,hb_u⟩
    refine ⟨_,rfl,?_⟩
    have hb_u':Below v3.heap.size v3 u1:=hbA.trans (hb_u.mono hbA.size)
    have rz:=(row_new v3 #[.slice none 0 0,.int .i64 0,.int .i64 0] 140).drew.below hb_u
    obtain ⟨z0,z1,z2⟩:=rz.k3
    obtain ⟨y0,y1,y2⟩:=rz.z3
    have zl:=rz.lt
    have hgn:∀ g,blk ax es.length=some g->v3.heap.size<g:=fun g hg=>by have:=hgx g hg;simp at this;omega
    refine hKq.out _ _ (HK.out _ hb_u') (fun hHd6=>?_)
    try simp only [PS]
    refine RD 13 rfl (fun Kq hKq=>?_)
    go_simp
    have hb_s:Below v3.heap.size v3 (((u1.setCell ⟨v3.heap.size,0,none⟩ (.slice ax es.length cx)).setCell ⟨v3.heap.size,1,none⟩ (.int .i64 U)).setCell ⟨v3.heap.size,2,none⟩ (.int .i64 L)):=((hb_u'.setCell (Nat.le_refl _) _).setCell (Nat.le_refl _) _).setCell (Nat.le_refl _) _
    refine hKq.out _ _ (HK.out _ hb_s) (fun hHd7=>?_)
    try simp only [PS]
    refine DN ?_
    go_wp2_with fail
    go_meet
    refine ⟨v3.heap.size,ax,cx,rfl,((rz.set 0 (by simp) _).set 1 (by simp) _).set 2 (by simp) _,Nat.le_refl _,?_,fun g hg=>Nat.le_of_lt (hgn g hg),hb_s⟩
    iterate 3 (refine OwnS.setF ?_ _ (fun g hg hn=>by have:=hgn g (by subst hg;exact blk_pos _ _ _ (strs_neO hn));show v3.heap.size≠g;omega) _)
    exact hox
  ·go_simp
   have hbA:Below v3.heap.size v3 (v3.alloc (.cells #[.slice none 0 0,.int .i64 0,.int .i64 0] 140)).drew:=((Below.refl _ _).alloc (Nat.le_refl _) _).drew
   refine hKq.out _ _ (HK.out _ hbA) (fun hHd8=>?_)
   try simp only [PS]
   refine RD 4 rfl (fun Kq hKq=>?_)
   refine step_call (by rfl) 59 #[.int .i64 (ss.length:Int),.int .i64 H] (by go_simp) (HB.out _) ?_
   rintro e wz ⟨rfl,rfl⟩
   refine ⟨_,rfl,?_⟩
   refine hKq.out _ _ hHd8 (fun _=>?_)
   try simp only [PS]
   refine RD 11 rfl (fun Kq hKq=>?_)
   refine step_call (by rfl) 78 #[.agg #[.slice a ss.length c,.slice a' ws.length c'],.int .i64 q,.int .i64 Q,.int .i64 F,.int .i64 R,.int .i64 n] (by go_simp) (HSC.out _ ((h.below hE).below hbA) ((h'.below hE).below hbA)) ?_
   rintro e u1 ⟨ax,cx,rfl,hox,hgx,hb_u⟩
   refine ⟨_,rfl,?_⟩
   have hb_u':Below v3.heap.size v3 u1:=hbA.trans (hb_u.mono hbA.size)
   have rz:=(row_new v3 #[.slice none 0 0,.int .i64 0,.int .i64 0] 140).drew.below hb_u
   obtain ⟨z0,z1,z2⟩:=rz.k3
   obtain ⟨y0,y1,y2⟩:=rz.z3
   have zl:=rz.lt
   have hgn:∀ g,blk ax es.length=some g->v3.heap.size<g:=fun g hg=>by have:=hgx g hg;simp at this;omega
   refine hKq.out _ _ (HK.out _ hb_u') (fun hHd10=>?_)
   try simp only [PS]
   refine RD 13 rfl (fun Kq hKq=>?_)
   go_simp
   have hb_s:Below v3.heap.size v3 (((u1.setCell ⟨v3.heap.size,0,none⟩ (.slice ax es.length cx)).setCell ⟨v3.heap.size,1,none⟩ (.int .i64 U)).setCell ⟨v3.heap.size,2,none⟩ (.int .i64 L)):=((hb_u'.setCell (Nat.le_refl _) _).setCell (Nat.le_refl _) _).setCell (Nat.le_refl _) _
   refine hKq.out _ _ (HK.out _ hb_s) (fun hHd11=>?_)
   try simp only [PS]
   refine DN ?_
   go_wp2_with fail
   go_meet
   refine ⟨v3.heap.size,ax,cx,rfl,((rz.set 0 (by simp) _).set 1 (by simp) _).set 2 (by simp) _,Nat.le_refl _,?_,fun g hg=>Nat.le_of_lt (hgn g hg),hb_s⟩
   iterate 3 (refine OwnS.setF ?_ _ (fun g hg hn=>by have:=hgn g (by subst hg;exact blk_pos _ _ _ (strs_neO hn));show v3.heap.size≠g;omega) _)
   exact hox
 case rest =>
 obtain ⟨BX,ax,cx,rfl,hrx,hBX,hox,hgx,hb⟩:=hcut
 have dX:Dep wc v3.heap.size wc.heap.size (fun W=>OwnS W ax (es.map Value.string)):=dep_own hox strs_neO hgx
 have bX:Dep wc v3.heap.size wc.heap.size (fun W=>Row W BX [.slice ax es.length cx,.int .i64 U,.int .i64 L]):=dep_row hrx hBX hrx.lt (Nat.le_refl _)
 clear hgx hox hrx
 have s_wc:v3.heap.size<=wc.heap.size:=hb.size
 replace bA:=bA.below hb
 replace bD:=bD.below hb
 replace bR:=bR.below hb
 replace hE:=hE.trans (hb.mono hE.size)
 clear hb
 obtain ⟨q_bX_0,q_bX_1,q_bX_2⟩:=bX.now.k3
 have q_bX_l:=bX.now.lt
 go_wp2_with fail
 clear q_bX_0 q_bX_1 q_bX_2 q_bX_l
 have HFX:=hid (HFD.out _ cx _ dX.now.strs)
 cases hf:foldE es [] with
 | none =>
  rw [hf] at HFX
  simp only [Option.getD_none,Option.isSome_none,List.length_nil] at HFX
  have HDD:=hid (HD2.out hf)
  clear hf HD2 HD3 HD4 HD5 HD6 HMO
  refine (HFX.out).mono ?_
  rintro e v4 ⟨a6,c6,rfl,_,_,_,hb⟩
  have s_v4:wc.heap.size<=v4.heap.size:=hb.size
  replace bA:=bA.below hb
  replace bD:=bD.below hb
  replace bR:=bR.below hb
  replace dX:=dX.below hb
  replace bX:=bX.below hb
  replace hE:=hE.trans (hb.mono hE.size)
  clear hb
  obtain ⟨q_bD_0,q_bD_1,q_bD_2,q_bD_3,q_bD_4,q_bD_5,q_bD_6,q_bD_7,q_bD_8,q_bD_9,q_bD_10,q_bD_11⟩:=bD.now.k12
  obtain ⟨f_bD_0,f_bD_1,f_bD_2,f_bD_3,f_bD_4,f_bD_5,f_bD_6,f_bD_7,f_bD_8,f_bD_9,f_bD_10,f_bD_11⟩:=bD.now.z12
  have q_bD_l:=bD.now.lt
  go_wp2_with fail
  rw [show D=noD 2 from HDD.out]
  refine bodyPost_ret (v:=dnV (noD 2) none 0 none 0) (by simp [results,Try.results64,go_sem,dnV,noD,q_bD_l,q_bD_0,q_bD_1,q_bD_2,q_bD_3,q_bD_4,q_bD_5,q_bD_6,q_bD_7,q_bD_8,q_bD_9,q_bD_10,q_bD_11]) rfl (dn_no rfl ?_)
  refine (fun hbz=>Below.alloc hbz (Below.size hbz) _) ?_
  iterate 12 (refine Below.setCell ?_ (by show w.heap.size<=w.heap.size+1;omega) _)
  exact hE
 | some rs =>
  rw [hf] at HFX
  simp only [Option.getD_some,Option.isSome_some] at HFX
  have hok:=foldE_ok es [] stateOk_nil rs hf
  have hsz:=stateOk_sizes hok
  have HSZ:=hid hsz.2
  have hrl:=hsz.1
  have HD3':=hid (HD3.out rs hf)
  have HD4':=hid (HD4.out rs hf)
  have HD5':=hid (HD5.out rs hf)
  have HD6':=hid (HD6.out rs hf)
  have HMO':=hid (HMO.out rs)
  have HRM:=hid (fun ay cy wx k1=>room_s ay rs cy n wx k1 (by omega) HSZ.out)
  have hrb:=roomOf_bound (snapOf rs) n
  have hsl:=snapOf_len rs
  obtain ⟨r,HRR⟩:∃ r,Hid (r=roomOf (snapOf rs) n):=⟨_,hid rfl⟩
  rw [<-HRR.out] at HRM hrb HD4' HD5' HD6' HMO'
  clear hf hok hsz HD2 HD3 HD4 HD5 HD6 HMO HFD
  refine (HFX.out).mono ?_
  rintro e v4 ⟨a6,c6,rfl,hc6,ho6,hg6,hb⟩
  have s_v4:wc.heap.size<=v4.heap.size:=hb.size
  replace bA:=bA.below hb
  replace bD:=bD.below hb
  replace bR:=bR.below hb
  replace dX:=dX.below hb
  replace bX:=bX.below hb
  replace hE:=hE.trans (hb.mono hE.size)
  have dT:Dep v4 wc.heap.size v4.heap.size (fun W=>OwnS W a6 (prcells rs)):=dep_own ho6 prcells_neO hg6
  have lo6:∀ g,blk a6 rs.length=some g->wc.heap.size<=g/\g<v4.heap.size:=fun g hh=>⟨hg6 g hh,ho6.lt _ prcells_neP g hh⟩
  clear ho6 hg6
  clear hb
  by_cases h4:60000<L+1
  case pos =>
   obtain ⟨q_bX_0,q_bX_1,q_bX_2⟩:=bX.now.k3
   have q_bX_l:=bX.now.lt
   obtain ⟨q_bD_0,q_bD_1,q_bD_2,q_bD_3,q_bD_4,q_bD_5,q_bD_6,q_bD_7,q_bD_8,q_bD_9,q_bD_10,q_bD_11⟩:=bD.now.k12
   obtain ⟨f_bD_0,f_bD_1,f_bD_2,f_bD_3,f_bD_4,f_bD_5,f_bD_6,f_bD_7,f_bD_8,f_bD_9,f_bD_10,f_bD_11⟩:=bD.now.z12
   have q_bD_l:=bD.now.lt
   go_wp2_with fail
   rw [show D=noD 3 from HD3'.out (by omega)]
   refine bodyPost_ret (v:=dnV (noD 3) none 0 none 0) (by simp [results,Try.results64,go_sem,dnV,noD,q_bD_l,q_bD_0,q_bD_1,q_bD_2,q_bD_3,q_bD_4,q_bD_5,q_bD_6,q_bD_7,q_bD_8,q_bD_9,q_bD_10,q_bD_11]) rfl (dn_no rfl ?_)
   refine (fun hbz=>Below.alloc hbz (Below.size hbz) _) ?_
   iterate 12 (refine Below.setCell ?_ (by show w.heap.size<=w.heap.size+1;omega) _)
   exact hE
  have h4':L+1<=60000:=by omega
  obtain ⟨q_bX_0,q_bX_1,q_bX_2⟩:=bX.now.k3
  have q_bX_l:=bX.now.lt
  go_wp2_with fail
  clear q_bX_0 q_bX_1 q_bX_2 q_bX_l
  generalize e_v5:v4.alloc _=v5
  obtain ⟨hb,z_v5,bT⟩:=bx1 e_v5
  have s_v5:v4.heap.size+1<=v5.heap.size:=by omega
  clear e_v5 z_v5
  replace bA:=bA.below hb
  replace bD:=bD.below hb
  replace bR:=bR.below hb
  replace dX:=dX.below hb
  replace bX:=bX.below hb
  replace dT:=dT.below hb
  replace hE:=hE.trans (hb.mono hE.size)
  clear hb
  refine (HRM.out _ _ _ dT.now.prs).mono ?_
  rintro e v6 ⟨rfl,hb⟩
  have s_v6:v5.heap.size<=v6.heap.size:=hb.size
  replace bA:=bA.below hb
  replace bD:=bD.below hb
  replace bR:=bR.below hb
  replace dX:=dX.below hb
  replace bX:=bX.below hb
  replace dT:=dT.below hb
  replace bT:=bT.below hb
  replace hE:=hE.trans (hb.mono hE.size)
  clear hb
  by_cases h5:Q-1<r
  case pos =>
   obtain ⟨q_bD_0,q_bD_1,q_bD_2,q_bD_3,q_bD_4,q_bD_5,q_bD_6,q_bD_7,q_bD_8,q_bD_9,q_bD_10,q_bD_11⟩:=bD.now.k12
   obtain ⟨f_bD_0,f_bD_1,f_bD_2,f_bD_3,f_bD_4,f_bD_5,f_bD_6,f_bD_7,f_bD_8,f_bD_9,f_bD_10,f_bD_11⟩:=bD.now.z12
   have q_bD_l:=bD.now.lt
   go_wp2_with fail
   rw [show D=noD 4 from HD4'.out (by omega) (by omega)]
   refine bodyPost_ret (v:=dnV (noD 4) none 0 none 0) (by simp [results,Try.results64,go_sem,dnV,noD,q_bD_l,q_bD_0,q_bD_1,q_bD_2,q_bD_3,q_bD_4,q_bD_5,q_bD_6,q_bD_7,q_bD_8,q_bD_9,q_bD_10,q_bD_11]) rfl (dn_no rfl ?_)
   iterate 12 (refine Below.setCell ?_ (by show w.heap.size<=w.heap.size+1;omega) _)
   exact hE
  have h5':r<=Q-1:=by omega
  by_cases h6:Q<=U
  case pos =>
   have HMV:=hid (fun ay cy wx k1=>move_s n ss.length (L+1) T H F R U 0 ay rs cy wx k1 (by omega) HSZ.out (HMO'.out (by omega) (by omega)))
   rw [<-HD5'.out (by omega) (by omega) (by omega)] at HMV
   obtain ⟨C0,W0,S0,L0,T0,H0,F0,R0,U0,O0,ds,os⟩:=D
   unfold storeV at HMV
   unfold DnPost dnV at HMV
   simp only at HMV
   clear HD3' HD4' HD5' HD6' HMO'
   obtain ⟨q_bX_0,q_bX_1,q_bX_2⟩:=bX.now.k3
   have q_bX_l:=bX.now.lt
   obtain ⟨q_bR_0,q_bR_1,q_bR_2,q_bR_3⟩:=bR.now.k4
   have q_bR_l:=bR.now.lt
   have q_bT_0:=bT.now.cell 0 _ rfl
   have q_bT_l:=bT.now.lt
   go_wp2_with fail
   clear q_bX_0 q_bX_1 q_bX_2 q_bX_l q_bR_0 q_bR_1 q_bR_2 q_bR_3 q_bR_l q_bT_0 q_bT_l
   generalize e_v7:v6.alloc _=v7
   obtain ⟨hb,z_v7,bS⟩:=bx1 e_v7
   have s_v7:v6.heap.size+1<=v7.heap.size:=by omega
   clear e_v7 z_v7
   replace bA:=bA.below hb
   replace bD:=bD.below hb
   replace bR:=bR.below hb
   replace dX:=dX.below hb
   replace bX:=bX.below hb
   replace dT:=dT.below hb
   replace bT:=bT.below hb
   replace hE:=hE.trans (hb.mono hE.size)
   clear hb
   refine (HMV.out _ _ _ dT.now.prs).mono ?_
   rintro e v8 ⟨az,cz,bz,ez,rfl,hcz,hoz,hz1,hz2,hb⟩
   have s_v8:v7.heap.size<=v8.heap.size:=hb.size
   replace bA:=bA.below hb
   replace bD:=bD.below hb
   replace bR:=bR.below hb
   replace dX:=dX.below hb
   replace bX:=bX.below hb
   replace dT:=dT.below hb
   replace bT:=bT.below hb
   replace bS:=bS.below hb
   replace hE:=hE.trans (hb.mono hE.size)
   have HOZ:=hid hoz
   have s_z:v7.heap.size<=v8.heap.size:=hb.size
   clear hoz
   clear hb
   obtain ⟨q_bD_0,q_bD_1,q_bD_2,q_bD_3,q_bD_4,q_bD_5,q_bD_6,q_bD_7,q_bD_8,q_bD_9,q_bD_10,q_bD_11⟩:=bD.now.k12
   obtain ⟨f_bD_0,f_bD_1,f_bD_2,f_bD_3,f_bD_4,f_bD_5,f_bD_6,f_bD_7,f_bD_8,f_bD_9,f_bD_10,f_bD_11⟩:=bD.now.z12
   have q_bD_l:=bD.now.lt
   go_wp2_with fail
   have hn1:∀ g,az=some ⟨g,0,none⟩->prcells ds≠[]->w.heap.size+1≠g:=fun g hg hne=>by have:=hz1 g (by subst hg;exact blk_pos _ _ _ (ne_of_prcells hne));omega
   have hn2:∀ g,bz=some ⟨g,0,none⟩->opcells os≠[]->w.heap.size+1≠g:=fun g hg hne=>by have:=hz2 g (by subst hg;exact blk_pos _ _ _ (ne_of_opcells hne));omega
   refine bodyPost_ret (v:=dnV ⟨C0,W0,S0,L0,T0,H0,F0,R0,U0,O0,ds,os⟩ az cz bz ez) (by simp [results,Try.results64,go_sem,dnV,q_bD_0,q_bD_1,q_bD_2,q_bD_3,q_bD_4,q_bD_5,q_bD_6,q_bD_7,q_bD_8,q_bD_9,q_bD_10,q_bD_11]) rfl ⟨az,cz,bz,ez,rfl,hcz,⟨?_,?_,HOZ.out.ne⟩,?_,?_,?_⟩
   ·iterate 12 (refine OwnS.set' ?_ _ (fun g hg hne=>hn1 g hg hne) _)
    exact HOZ.out.s
   ·iterate 12 (refine OwnS.set' ?_ _ (fun g hg hne=>hn2 g hg hne) _)
    exact HOZ.out.p
   ·exact fun g hg=>by have:=hz1 g hg;omega
   ·exact fun g hg=>by have:=hz2 g hg;omega
   ·iterate 12 (refine Below.setCell ?_ (by show w.heap.size<=w.heap.size+1;omega) _)
    exact hE
  have h6':U<Q:=by omega
  have HFM:=hid (fun wx=>form_s_any 3 (L+1) (F+U) ByteArray.empty n wx (by decide))
  have HDL:=hid (HD6'.out (by omega) (by omega) (by omega))
  obtain ⟨FM,hFM⟩:∃ FM,FM=formOf 3 (L+1) (F+U) ByteArray.empty n:=⟨_,rfl⟩
  rw [<-hFM] at HFM HDL
  clear hFM HD3' HD4' HD5' HD6' HMO'
  obtain ⟨q_bX_0,q_bX_1,q_bX_2⟩:=bX.now.k3
  have q_bX_l:=bX.now.lt
  obtain ⟨q_bR_0,q_bR_1,q_bR_2,q_bR_3⟩:=bR.now.k4
  have q_bR_l:=bR.now.lt
  have q_bT_0:=bT.now.cell 0 _ rfl
  have q_bT_l:=bT.now.lt
  go_wp2_with fail
  clear q_bX_0 q_bX_1 q_bX_2 q_bX_l q_bR_0 q_bR_1 q_bR_2 q_bR_3 q_bR_l q_bT_0 q_bT_l
  generalize e_v7:v6.alloc _=v7
  obtain ⟨hb,z_v7,bS⟩:=bx1 e_v7
  have s_v7:v6.heap.size+1<=v7.heap.size:=by omega
  clear e_v7 z_v7
  replace bA:=bA.below hb
  replace bD:=bD.below hb
  replace bR:=bR.below hb
  replace dX:=dX.below hb
  replace bX:=bX.below hb
  replace dT:=dT.below hb
  replace bT:=bT.below hb
  replace hE:=hE.trans (hb.mono hE.size)
  clear hb
  refine (HFM.out _).mono ?_
  rintro e v8 ⟨rfl,hb⟩
  have s_v8:v7.heap.size<=v8.heap.size:=hb.size
  replace bA:=bA.below hb
  replace bD:=bD.below hb
  replace bR:=bR.below hb
  replace dX:=dX.below hb
  replace bX:=bX.below hb
  replace dT:=dT.below hb
  replace bT:=bT.below hb
  replace bS:=bS.below hb
  replace hE:=hE.trans (hb.mono hE.size)
  clear hb
  obtain ⟨q_bS_0,q_bS_1,q_bS_2,q_bS_3,q_bS_4,q_bS_5,q_bS_6,q_bS_7,q_bS_8,q_bS_9,q_bS_l⟩:=c10 bS.now
  obtain ⟨q_bR_0,q_bR_1,q_bR_2,q_bR_3⟩:=bR.now.k4
  have q_bR_l:=bR.now.lt
  obtain ⟨q_bX_0,q_bX_1,q_bX_2⟩:=bX.now.k3
  have q_bX_l:=bX.now.lt
  go_wp2_with fail
  clear q_bS_0 q_bS_1 q_bS_2 q_bS_3 q_bS_4 q_bS_5 q_bS_6 q_bS_7 q_bS_8 q_bS_9 q_bS_l q_bR_0 q_bR_1 q_bR_2 q_bR_3 q_bR_l q_bX_0 q_bX_1 q_bX_2 q_bX_l
  have HK:Hid (∀ W,Below v8.heap.size v8 W->W.cell? ⟨v6.heap.size,0,none⟩=some (.int .i64 n)/\W.cell? ⟨v6.heap.size,1,none⟩=some (.int .i64 (ss.length:Int))/\W.cell? ⟨v6.heap.size,2,none⟩=some (.int .i64 (L+1))/\W.cell? ⟨v6.heap.size,3,none⟩=some (.int .i64 T)/\W.cell? ⟨v6.heap.size,4,none⟩=some (.int .i64 H)/\W.cell? ⟨v6.heap.size,5,none⟩=some (.int .i64 F)/\W.cell? ⟨v6.heap.size,6,none⟩=some (.int .i64 R)/\W.cell? ⟨v6.heap.size,7,none⟩=some (.int .i64 (U+1))/\W.cell? ⟨v6.heap.size,8,none⟩=some (.int .i64 0)/\W.cell? ⟨v6.heap.size,9,none⟩=some (.slice a6 rs.length c6)/\W.cell? ⟨v2.heap.size,1,none⟩=some (.int .i64 H)/\W.cell? ⟨BX,1,none⟩=some (.int .i64 U)):=fun W hb=>⟨(bS.below hb).now.cell 0 _ rfl,(bS.below hb).now.cell 1 _ rfl,(bS.below hb).now.cell 2 _ rfl,(bS.below hb).now.cell 3 _ rfl,(bS.below hb).now.cell 4 _ rfl,(bS.below hb).now.cell 5 _ rfl,(bS.below hb).now.cell 6 _ rfl,(bS.below hb).now.cell 7 _ rfl,(bS.below hb).now.cell 8 _ rfl,(bS.below hb).now.cell 9 _ rfl,(bR.below hb).now.cell 1 _ rfl,(bX.below hb).now.cell 1 _ rfl⟩
  refine wp_region_held_drew (S:=fun w'=>w'.cell? ⟨v6.heap.size,0,none⟩=some (.int .i64 n)/\w'.cell? ⟨v6.heap.size,1,none⟩=some (.int .i64 (ss.length:Int))/\w'.cell? ⟨v6.heap.size,2,none⟩=some (.int .i64 (L+1))/\w'.cell? ⟨v6.heap.size,3,none⟩=some (.int .i64 T)/\w'.cell? ⟨v6.heap.size,4,none⟩=some (.int .i64 H)/\w'.cell? ⟨v6.heap.size,5,none⟩=some (.int .i64 F)/\w'.cell? ⟨v6.heap.size,6,none⟩=some (.int .i64 R)/\w'.cell? ⟨v6.heap.size,7,none⟩=some (.int .i64 (U+1))/\w'.cell? ⟨v6.heap.size,8,none⟩=some (.int .i64 0)/\w'.cell? ⟨v6.heap.size,9,none⟩=some (.slice a6 rs.length c6)/\w'.cell? ⟨v2.heap.size,1,none⟩=some (.int .i64 H)/\w'.cell? ⟨BX,1,none⟩=some (.int .i64 U)) (by kernel_rfl) (HK.out _ (Below.refl _ _).drew) (fun hHe=>?_)
  refine TY 0 (.agg #[.int .i64 n,.int .i64 (ss.length:Int),.int .i64 (L+1),.int .i64 T,.int .i64 H,.int .i64 F,.int .i64 R,.int .i64 (U+1),.int .i64 0,.slice a6 rs.length c6]) rfl hHe ?_
  simp only [PS]
  refine TY 1 (.int .i64 (ss.length:Int)) rfl hHe ?_
  simp only [PS]
  refine TY 2 (.pointer (some ⟨v2.heap.size,1,none⟩)) rfl hHe ?_
  simp only [PS]
  refine TY 3 (.int .i64 H) rfl hHe ?_
  simp only [PS]
  refine TY 5 (.pointer (some ⟨BX,1,none⟩)) rfl hHe ?_
  simp only [PS]
  refine TY 6 (.int .i64 U) rfl hHe ?_
  simp only [PS]
  refine TY 8 (.string FM) rfl hHe ?_
  simp only [PS]
  refine TY 10 (.agg #[.bool true,.int .i64 0,.string ⟨#[]⟩]) rfl hHe ?_
  simp only [PS]
  refine RD 4 rfl (fun Kq hKq=>?_)
  refine step_call (by rfl) 59 #[.int .i64 (ss.length:Int),.int .i64 H] (by go_simp) (HB.out _) ?_
  rintro e wz ⟨rfl,rfl⟩
  refine ⟨_,rfl,?_⟩
  refine hKq.out _ _ hHe (fun _=>?_)
  try simp only [PS]
  refine TY 7 (.int .i64 (q+U)) rfl hHe ?_
  simp only [PS]
  refine RD 9 rfl (fun Kq hKq=>?_)
  refine step_call (by rfl) 58 #[.int .i64 (q+U),.string FM] (by go_simp) (put_s _ _ _) ?_
  rintro e w4 ⟨rfl,hb4⟩
  refine ⟨_,rfl,?_⟩
  have hb4':Below v8.heap.size v8 w4:=(Below.refl _ _).drew.trans hb4
  refine hKq.out _ _ (HK.out _ hb4') (fun hHd2=>?_)
  try simp only [PS]
  refine RD 11 rfl (fun Kq hKq=>?_)
  go_simp
  have hb5:Below v8.heap.size v8 (w4.alloc (.cells #[.bool false,.int .i64 (q+U),.string FM,.bool true,.int .i64 0,.string ⟨#[]⟩] 34)):=hb4'.alloc hb4'.size _
  have rD:=(bD.below hb5).now
  obtain ⟨q_bD_0,q_bD_1,q_bD_2,q_bD_3,q_bD_4,q_bD_5,q_bD_6,q_bD_7,q_bD_8,q_bD_9,q_bD_10,q_bD_11⟩:=rD.k12
  obtain ⟨f_bD_0,f_bD_1,f_bD_2,f_bD_3,f_bD_4,f_bD_5,f_bD_6,f_bD_7,f_bD_8,f_bD_9,f_bD_10,f_bD_11⟩:=rD.z12
  have q_bD_l:=rD.lt
  have s4:=hb4'.size
  refine hKq.out _ _ (HK.out _ hb5) (fun hHd3=>?_)
  try simp only [PS]
  refine TY 12 (.agg #[.int .i64 0,.int .i64 n,.int .i64 (ss.length:Int),.int .i64 (L+1),.int .i64 T,.int .i64 H,.int .i64 F,.int .i64 R,.int .i64 (U+1),.int .i64 0,.slice a6 rs.length c6,.slice (some ⟨w4.heap.size,0,none⟩) 2 2]) rfl hHd3 ?_
  simp only [PS]
  refine RD 13 rfl (fun Kq hKq=>?_)
  go_simp
  have hb6:True:=trivial
  refine hKq.out _ _ (⟨by go_simp,by go_simp,by go_simp,by go_simp,by go_simp,by go_simp,by go_simp,by go_simp,by go_simp,by go_simp,by go_simp,by go_simp⟩) (fun hHd4=>?_)
  try simp only [PS]
  refine DN ?_
  go_wp2
  rw [HDL.out]
  have hns:∀ g,a6=some ⟨g,0,none⟩->prcells rs≠[]->w.heap.size+1≠g:=fun g hg hne=>by have:=lo6 g (by subst hg;exact blk_pos _ _ _ (ne_of_prcells hne));omega
  refine bodyPost_ret (v:=dnV ⟨0,n,ss.length,L+1,T,H,F,R,U+1,0,rs,[(false,q+U,FM),(true,0,ByteArray.empty)]⟩ a6 c6 (some ⟨w4.heap.size,0,none⟩) 2) (by simp [results,Try.results64,go_sem,dnV,q_bD_l,q_bD_0,q_bD_1,q_bD_2,q_bD_3,q_bD_4,q_bD_5,q_bD_6,q_bD_7,q_bD_8,q_bD_9,q_bD_10,q_bD_11]) rfl ⟨a6,c6,_,2,rfl,hc6,⟨?_,?_,?_⟩,?_,?_,?_⟩
  ·iterate 12 (refine OwnS.set' ?_ _ (fun g hg hne=>hns g hg hne) _)
   exact (dT.below hb5).now
  ·iterate 12 (refine OwnS.set' ?_ _ (fun g hg hne=>by cases hg;show w.heap.size+1≠w4.heap.size;omega) _)
   exact .inr ⟨w4.heap.size,rfl,row_new _ _ _⟩
  ·cases hb1:blk a6 rs.length with
   | none=>exact .inl hb1
   | some g =>
    have k1:=lo6 g hb1
    refine .inr (.inr fun e=>?_)
    rw [show blk a6 _=some g from hb1,blk_pos _ _ _ (by simp)] at e
    cases e
    omega
  ·exact fun g hg=>by have:=lo6 g hg;omega
  ·exact fun g hg=>by have:=blk_is hg;have:=hE.size;omega
  ·iterate 12 (refine Below.setCell ?_ (by show w.heap.size<=w.heap.size+1;omega) _)
   exact hE.trans (hb5.mono hE.size)
end Go.Proofs.Ythdilmkbnpmdaaa
