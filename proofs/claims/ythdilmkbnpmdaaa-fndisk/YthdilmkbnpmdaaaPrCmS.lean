import Derived.Test.YthdilmkbnpmdaaaPrMvS
set_option maxHeartbeats 16000000
namespace Go.Proofs.Ythdilmkbnpmdaaa
open Go.RowKit
set_option linter.unusedVariables false
set_option linter.unusedSimpArgs false
set_option maxRecDepth 8000
theorem commit_s (W S L T H F R U O:Int) (a:Option Addr) (rs:List Pr) (c:Nat) (a2:Option Addr) (b:List Ch) (c2:Nat) (w:World) (h:Prs w a rs) (hl:rs.length<=1048576) (hs:∀ x∈rs,x.1.size<=1048576/\x.2.size<=1048576) (h2:Chs w a2 b) (hl2:b.length<=1048576) (hs2:∀ x∈b,x.1.size<=1048576/\x.2.1.size<=1048576) :
  Calls Try.prog 43 #[storeV W S L T H F R U O a rs.length c,.slice a2 b.length c2] w fun x w'=>DnPost w w' x (commitD W S L T H F R U O rs b):=by
 obtain ⟨i0,hi0,hz0,hz1,hz2⟩:=info_partsP info_opS
 have HI:=hid (And.intro hi0 (And.intro hz0 (And.intro hz1 hz2)))
 clear hi0 hz0 hz1 hz2
 have HVS:=hid (fun w' h'=>vstore_s W S L T H F R U O a rs c w' h' hl hs)
 have HVB:=hid (fun w' h'=>vbatch_s a2 b c2 w' h' hl2 hs2)
 have HAP:=hid (fun w' h' h''=>apply_s a rs c a2 b c2 w' h' hl hs h'' hl2 hs2)
 unfold ApPost stV at HAP
 have hAl:=apR_len rs b
 have HAM:=hid (apR_mem rs b (fun x=>x.1.size<=1048576/\x.2.size<=1048576) hs hs2)
 unfold storeV at HVS ⊢
 unfold commitD
 obtain ⟨A1,HA1⟩:∃ A1,Hid (A1=apR rs b):=⟨_,hid rfl⟩
 obtain ⟨C1,HC1⟩:∃ C1,Hid (C1=apC rs b):=⟨_,hid rfl⟩
 rw [<-HA1.out] at hAl HAM
 rw [<-HA1.out,<-HC1.out] at HAP ⊢
 cases hok:storeOk W S L T H F R U O rs with
 | false =>
  rw [hok] at HVS
  simp only [Bool.false_and,Bool.false_eq_true,if_false]
  go_enter Try.func43,Try.ntmps43
  go_wp2_with fail
  obtain ⟨v0,e0⟩:∃ x,x=(w.alloc (.cells #[.int .i64 W,.int .i64 S,.int .i64 L,.int .i64 T,.int .i64 H,.int .i64 F,.int .i64 R,.int .i64 U,.int .i64 O,.slice a rs.length c] 79)).alloc (.cells #[.int .i64 0,.int .i64 0,.int .i64 0,.int .i64 0,.int .i64 0,.int .i64 0,.int .i64 0,.int .i64 0,.int .i64 0,.int .i64 0,.slice none 0 0,.slice none 0 0] 103):=⟨_,rfl⟩
  have hE:Below w.heap.size w v0:=by rw [e0];exact ((Below.refl _ _).alloc (Nat.le_refl _) _).alloc (by simp) _
  have s_v0:w.heap.size+1+1<=v0.heap.size:=by rw [e0];simp
  have bS:Dep v0 w.heap.size (w.heap.size+1) (fun W'=>Row W' w.heap.size [.int .i64 W,.int .i64 S,.int .i64 L,.int .i64 T,.int .i64 H,.int .i64 F,.int .i64 R,.int .i64 U,.int .i64 O,.slice a rs.length c]):=by rw [e0];exact (dep_box w _ _).below ((Below.refl _ _).alloc (Nat.le_refl _) _)
  have bD:Dep v0 (w.heap.size+1) (w.heap.size+1+1) (fun W'=>Row W' (w.heap.size+1) [.int .i64 0,.int .i64 0,.int .i64 0,.int .i64 0,.int .i64 0,.int .i64 0,.int .i64 0,.int .i64 0,.int .i64 0,.int .i64 0,.slice none 0 0,.slice none 0 0]):=by rw [e0];exact dep_row (row_at (w:=w.alloc _) (by simp)) (Nat.le_refl _) (by omega) (by simp)
  rw [<-e0]
  clear e0
  refine (HVS.out _ (h.below hE)).mono ?_
  rintro e v1 ⟨rfl,hb⟩
  have s_v1:v0.heap.size<=v1.heap.size:=hb.size
  have n_bS:=bS.below hb
  clear bS
  have bS:=n_bS
  clear n_bS
  have n_bD:=bD.below hb
  clear bD
  have bD:=n_bD
  clear n_bD
  have n_hE:=hE.trans (hb.mono hE.size)
  clear hE
  have hE:=n_hE
  clear n_hE
  clear hb
  obtain ⟨q_bD_0,q_bD_1,q_bD_2,q_bD_3,q_bD_4,q_bD_5,q_bD_6,q_bD_7,q_bD_8,q_bD_9,q_bD_10,q_bD_11⟩:=bD.now.k12
  obtain ⟨f_bD_0,f_bD_1,f_bD_2,f_bD_3,f_bD_4,f_bD_5,f_bD_6,f_bD_7,f_bD_8,f_bD_9,f_bD_10,f_bD_11⟩:=bD.now.z12
  have q_bD_l:=bD.now.lt
  go_wp2_with fail
  refine bodyPost_ret (v:=dnV (noD 1) none 0 none 0) (by simp [results,Try.results43,go_sem,dnV,noD,q_bD_l,q_bD_0,q_bD_1,q_bD_2,q_bD_3,q_bD_4,q_bD_5,q_bD_6,q_bD_7,q_bD_8,q_bD_9,q_bD_10,q_bD_11]) rfl (dn_no rfl ?_)
  iterate 12 (refine Below.setCell ?_ (by show w.heap.size<=w.heap.size+1;omega) _)
  exact hE
 | true =>
  rw [hok] at HVS
  simp only [Bool.true_and]
  cases hokb:batchOk b with
  | false =>
   rw [hokb] at HVB
   simp only [Bool.false_eq_true,if_false]
   go_enter Try.func43,Try.ntmps43
   go_wp2_with fail
   obtain ⟨v0,e0⟩:∃ x,x=(w.alloc (.cells #[.int .i64 W,.int .i64 S,.int .i64 L,.int .i64 T,.int .i64 H,.int .i64 F,.int .i64 R,.int .i64 U,.int .i64 O,.slice a rs.length c] 79)).alloc (.cells #[.int .i64 0,.int .i64 0,.int .i64 0,.int .i64 0,.int .i64 0,.int .i64 0,.int .i64 0,.int .i64 0,.int .i64 0,.int .i64 0,.slice none 0 0,.slice none 0 0] 103):=⟨_,rfl⟩
   have hE:Below w.heap.size w v0:=by rw [e0];exact ((Below.refl _ _).alloc (Nat.le_refl _) _).alloc (by simp) _
   have s_v0:w.heap.size+1+1<=v0.heap.size:=by rw [e0];simp
   have bS:Dep v0 w.heap.size (w.heap.size+1) (fun W'=>Row W' w.heap.size [.int .i64 W,.int .i64 S,.int .i64 L,.int .i64 T,.int .i64 H,.int .i64 F,.int .i64 R,.int .i64 U,.int .i64 O,.slice a rs.length c]):=by rw [e0];exact (dep_box w _ _).below ((Below.refl _ _).alloc (Nat.le_refl _) _)
   have bD:Dep v0 (w.heap.size+1) (w.heap.size+1+1) (fun W'=>Row W' (w.heap.size+1) [.int .i64 0,.int .i64 0,.int .i64 0,.int .i64 0,.int .i64 0,.int .i64 0,.int .i64 0,.int .i64 0,.int .i64 0,.int .i64 0,.slice none 0 0,.slice none 0 0]):=by rw [e0];exact dep_row (row_at (w:=w.alloc _) (by simp)) (Nat.le_refl _) (by omega) (by simp)
   rw [<-e0]
   clear e0
   refine (HVS.out _ (h.below hE)).mono ?_
   rintro e v1 ⟨rfl,hb⟩
   have s_v1:v0.heap.size<=v1.heap.size:=hb.size
   have n_bS:=bS.below hb
   clear bS
   have bS:=n_bS
   clear n_bS
   have n_bD:=bD.below hb
   clear bD
   have bD:=n_bD
   clear n_bD
   have n_hE:=hE.trans (hb.mono hE.size)
   clear hE
   have hE:=n_hE
   clear n_hE
   clear hb
   go_wp2_with fail
   refine (HVB.out _ (h2.below hE)).mono ?_
   rintro e v2 ⟨rfl,hb⟩
   have s_v2:v1.heap.size<=v2.heap.size:=hb.size
   have n_bS:=bS.below hb
   clear bS
   have bS:=n_bS
   clear n_bS
   have n_bD:=bD.below hb
   clear bD
   have bD:=n_bD
   clear n_bD
   have n_hE:=hE.trans (hb.mono hE.size)
   clear hE
   have hE:=n_hE
   clear n_hE
   clear hb
   obtain ⟨q_bD_0,q_bD_1,q_bD_2,q_bD_3,q_bD_4,q_bD_5,q_bD_6,q_bD_7,q_bD_8,q_bD_9,q_bD_10,q_bD_11⟩:=bD.now.k12
   obtain ⟨f_bD_0,f_bD_1,f_bD_2,f_bD_3,f_bD_4,f_bD_5,f_bD_6,f_bD_7,f_bD_8,f_bD_9,f_bD_10,f_bD_11⟩:=bD.now.z12
   have q_bD_l:=bD.now.lt
   go_wp2_with fail
   refine bodyPost_ret (v:=dnV (noD 1) none 0 none 0) (by simp [results,Try.results43,go_sem,dnV,noD,q_bD_l,q_bD_0,q_bD_1,q_bD_2,q_bD_3,q_bD_4,q_bD_5,q_bD_6,q_bD_7,q_bD_8,q_bD_9,q_bD_10,q_bD_11]) rfl (dn_no rfl ?_)
   iterate 12 (refine Below.setCell ?_ (by show w.heap.size<=w.heap.size+1;omega) _)
   exact hE
  | true =>
   rw [hokb] at HVB
   simp only [if_true]
   obtain ⟨hW,hS,hLL,hT,hH,hF,hU,hO,_⟩:=storeOk_of hok
   have hQ:=hv_yes hS
   clear hok hokb
   have HH:=hid (fun w'=>halves_s S w')
   have HB:=hid (fun w'=>base_s S H hH.1 hH.2 w')
   obtain ⟨n,rfl⟩:∃ n:Nat,W=(n:Int):=⟨W.toNat,by omega⟩
   have en:(n:Int).toNat=n:=by omega
   rw [en]
   obtain ⟨m,hm⟩:∃ m,m=56-n:=⟨_,rfl⟩
   rw [<-hm]
   have hnm:n+m=56:=by omega
   clear en hm
   have HF:=hid (fun w' h'=>formbatch_s a2 b c2 w' h' hl2 hs2)
   have hbo:=bOut_bound b
   have HCT:=hid (fun w'=>cut_s (bOut b) L (F+U) n m w' (by omega) hnm (by omega) (by omega))
   have hnp:=npages_tight (bOut b).size (n:Int) (by omega) (by omega)
   have hcl:=cutAll_len' (bOut b) L (F+U) n m hnm (by omega) (by omega) hLL (by omega)
   obtain ⟨Q,HQ⟩:∃ Q,Hid (Q=hv S):=⟨_,hid rfl⟩
   obtain ⟨N,HN⟩:∃ N,Hid (N=npages (bOut b).size (n:Int)):=⟨_,hid rfl⟩
   obtain ⟨bo,hbo1⟩:∃ bo,bo=bOut b:=⟨_,rfl⟩
   obtain ⟨cut,hcut⟩:∃ cut,cut=cutAll (bOut b) L (F+U) n m:=⟨_,rfl⟩
   have hcl':(cut.length:Int)=N:=by rw [hcut,HN.out];exact hcl (by omega)
   rw [<-hcut] at HCT ⊢
   rw [<-hbo1] at HF HCT hbo hnp
   rw [<-hbo1] at HN
   rw [<-HN.out] at hnp
   rw [<-HQ.out] at hQ hU HH HB ⊢
   rw [<-hbo1,<-HN.out]
   clear hcl hcut hbo1
   obtain ⟨q,hq⟩:∃ q,q=2+H*Q:=⟨_,rfl⟩
   have hqb:2<=q/\q<=101:=by
    rcases (show H=0\/H=1 by omega) with e | e
    ·subst e;omega
    ·subst e;omega
   rw [<-hq] at HB ⊢
   clear hq
   obtain ⟨r,HRR⟩:∃ r,Hid (r=roomOf (snapOf A1) (n:Int)):=⟨_,hid rfl⟩
   have HRM:=hid (fun a' c' w' h'=>room_s a' A1 c' (n:Int) w' h' (by omega) HAM.out)
   have hrb:=roomOf_bound (snapOf A1) (n:Int)
   have hsl:=snapOf_len A1
   rw [<-HRR.out] at HRM hrb ⊢
   obtain ⟨D,HD⟩:∃ D,Hid (D=if C1=0 then if r<=Q-1 then if N<=Q-U then (⟨0,(n:Int),S,L,T,H,F,R,U+N,O+N,A1,putOps (q+U) cut⟩:Dd) else noD 4 else noD 3 else noD 2):=⟨_,hid rfl⟩
   rw [<-HD.out]
   have hw1:IntKind.i64.wrap (Q-1)=Q-1:=by simp [IntKind.wrap,IntKind.bits,IntKind.signed];omega
   have hw2:IntKind.i64.wrap (Q-U)=Q-U:=by simp [IntKind.wrap,IntKind.bits,IntKind.signed];omega
   have hw3:IntKind.i64.wrap (F+U)=F+U:=by simp [IntKind.wrap,IntKind.bits,IntKind.signed];omega
   go_enter Try.func43,Try.ntmps43
   go_wp2_with fail
   obtain ⟨v0,e0⟩:∃ x,x=(w.alloc (.cells #[.int .i64 (n:Int),.int .i64 S,.int .i64 L,.int .i64 T,.int .i64 H,.int .i64 F,.int .i64 R,.int .i64 U,.int .i64 O,.slice a rs.length c] 79)).alloc (.cells #[.int .i64 0,.int .i64 0,.int .i64 0,.int .i64 0,.int .i64 0,.int .i64 0,.int .i64 0,.int .i64 0,.int .i64 0,.int .i64 0,.slice none 0 0,.slice none 0 0] 103):=⟨_,rfl⟩
   have hE:Below w.heap.size w v0:=by rw [e0];exact ((Below.refl _ _).alloc (Nat.le_refl _) _).alloc (by simp) _
   have s_v0:w.heap.size+1+1<=v0.heap.size:=by rw [e0];simp
   have bS:Dep v0 w.heap.size (w.heap.size+1) (fun W'=>Row W' w.heap.size [.int .i64 (n:Int),.int .i64 S,.int .i64 L,.int .i64 T,.int .i64 H,.int .i64 F,.int .i64 R,.int .i64 U,.int .i64 O,.slice a rs.length c]):=by rw [e0];exact (dep_box w _ _).below ((Below.refl _ _).alloc (Nat.le_refl _) _)
   have bD:Dep v0 (w.heap.size+1) (w.heap.size+1+1) (fun W'=>Row W' (w.heap.size+1) [.int .i64 0,.int .i64 0,.int .i64 0,.int .i64 0,.int .i64 0,.int .i64 0,.int .i64 0,.int .i64 0,.int .i64 0,.int .i64 0,.slice none 0 0,.slice none 0 0]):=by rw [e0];exact dep_row (row_at (w:=w.alloc _) (by simp)) (Nat.le_refl _) (by omega) (by simp)
   rw [<-e0]
   clear e0
   refine (HVS.out _ (h.below hE)).mono ?_
   rintro e v1 ⟨rfl,hb⟩
   have s_v1:v0.heap.size<=v1.heap.size:=hb.size
   have n_bS:=bS.below hb
   clear bS
   have bS:=n_bS
   clear n_bS
   have n_bD:=bD.below hb
   clear bD
   have bD:=n_bD
   clear n_bD
   have n_hE:=hE.trans (hb.mono hE.size)
   clear hE
   have hE:=n_hE
   clear n_hE
   clear hb
   go_wp2_with fail
   refine (HVB.out _ (h2.below hE)).mono ?_
   rintro e v2 ⟨rfl,hb⟩
   have s_v2:v1.heap.size<=v2.heap.size:=hb.size
   have n_bS:=bS.below hb
   clear bS
   have bS:=n_bS
   clear n_bS
   have n_bD:=bD.below hb
   clear bD
   have bD:=n_bD
   clear n_bD
   have n_hE:=hE.trans (hb.mono hE.size)
   clear hE
   have hE:=n_hE
   clear n_hE
   clear hb
   obtain ⟨q_bS_0,q_bS_1,q_bS_2,q_bS_3,q_bS_4,q_bS_5,q_bS_6,q_bS_7,q_bS_8,q_bS_9⟩:=bS.now.k10
   have q_bS_l:=bS.now.lt
   go_wp2_with fail
   clear q_bS_0 q_bS_1 q_bS_2 q_bS_3 q_bS_4 q_bS_5 q_bS_6 q_bS_7 q_bS_8 q_bS_9 q_bS_l
   refine (HAP.out _ (h.below hE) (h2.below hE)).mono ?_
   rintro e v3 ⟨a5,c5,rfl,hc5,ho,hg,hb⟩
   have s_v3:v2.heap.size<=v3.heap.size:=hb.size
   have n_bS:=bS.below hb
   clear bS
   have bS:=n_bS
   clear n_bS
   have n_bD:=bD.below hb
   clear bD
   have bD:=n_bD
   clear n_bD
   have n_hE:=hE.trans (hb.mono hE.size)
   clear hE
   have hE:=n_hE
   clear n_hE
   have dA:Dep v3 v2.heap.size v3.heap.size (fun W=>OwnS W a5 (prcells A1)):=dep_own ho prcells_neA hg
   have lo5:∀ g,blk a5 A1.length=some g->v2.heap.size<=g/\g<v3.heap.size:=fun g hg'=>⟨hg g hg',ho.lt _ (fun h e=>h (by have:=congrArg List.length e;rw [prcells_length,List.length_nil] at this;omega)) g hg'⟩
   clear ho hg
   clear hb
   by_cases hC:C1=0
   case neg =>
    obtain ⟨q_bD_0,q_bD_1,q_bD_2,q_bD_3,q_bD_4,q_bD_5,q_bD_6,q_bD_7,q_bD_8,q_bD_9,q_bD_10,q_bD_11⟩:=bD.now.k12
    obtain ⟨f_bD_0,f_bD_1,f_bD_2,f_bD_3,f_bD_4,f_bD_5,f_bD_6,f_bD_7,f_bD_8,f_bD_9,f_bD_10,f_bD_11⟩:=bD.now.z12
    have q_bD_l:=bD.now.lt
    go_wp2_with fail
    rw [show D=noD 2 by rw [HD.out,if_neg hC]]
    refine bodyPost_ret (v:=dnV (noD 2) none 0 none 0) (by simp [results,Try.results43,go_sem,dnV,noD,q_bD_l,q_bD_0,q_bD_1,q_bD_2,q_bD_3,q_bD_4,q_bD_5,q_bD_6,q_bD_7,q_bD_8,q_bD_9,q_bD_10,q_bD_11]) rfl (dn_no rfl ?_)
    refine (fun hbz=>Below.alloc hbz (Below.size hbz) _) ?_
    iterate 12 (refine Below.setCell ?_ (by show w.heap.size<=w.heap.size+1;omega) _)
    exact hE
   have HCC:=hid hC
   subst hC
   obtain ⟨q_bS_0,q_bS_1,q_bS_2,q_bS_3,q_bS_4,q_bS_5,q_bS_6,q_bS_7,q_bS_8,q_bS_9⟩:=bS.now.k10
   have q_bS_l:=bS.now.lt
   go_wp2_with (go_at_call 54;refine (HH.out _).mono ?_;rintro e wz ⟨rfl,hwz⟩;rw [hwz];clear hwz wz)
   clear q_bS_0 q_bS_1 q_bS_2 q_bS_3 q_bS_4 q_bS_5 q_bS_6 q_bS_7 q_bS_8 q_bS_9 q_bS_l
   obtain ⟨v4,e_v4⟩:∃ x,x=v3.alloc (.cells #[.slice a5 A1.length c5] 77):=⟨_,rfl⟩
   have hb:Below v3.heap.size v3 v4:=by rw [e_v4];exact (Below.refl _ _).alloc (Nat.le_refl _) _
   have bR:Dep v4 v3.heap.size (v3.heap.size+1) (fun W=>Row W v3.heap.size [.slice a5 A1.length c5]):=by rw [e_v4];exact dep_box _ _ _
   have s_v4:v3.heap.size+1<=v4.heap.size:=by rw [e_v4];simp
   rw [<-e_v4]
   clear e_v4
   have n_bS:=bS.below hb
   clear bS
   have bS:=n_bS
   clear n_bS
   have n_bD:=bD.below hb
   clear bD
   have bD:=n_bD
   clear n_bD
   have n_dA:=dA.below hb
   clear dA
   have dA:=n_dA
   clear n_dA
   have n_hE:=hE.trans (hb.mono hE.size)
   clear hE
   have hE:=n_hE
   clear n_hE
   clear hb
   refine (HRM.out _ _ _ dA.now.prsA).mono ?_
   rintro e v5 ⟨rfl,hb⟩
   have s_v5:v4.heap.size<=v5.heap.size:=hb.size
   have n_bS:=bS.below hb
   clear bS
   have bS:=n_bS
   clear n_bS
   have n_bD:=bD.below hb
   clear bD
   have bD:=n_bD
   clear n_bD
   have n_dA:=dA.below hb
   clear dA
   have dA:=n_dA
   clear n_dA
   have n_bR:=bR.below hb
   clear bR
   have bR:=n_bR
   clear n_bR
   have n_hE:=hE.trans (hb.mono hE.size)
   clear hE
   have hE:=n_hE
   clear n_hE
   clear hb
   by_cases hr:r<=Q-1
   case neg =>
    have hr':Q-1<r:=by omega
    obtain ⟨q_bD_0,q_bD_1,q_bD_2,q_bD_3,q_bD_4,q_bD_5,q_bD_6,q_bD_7,q_bD_8,q_bD_9,q_bD_10,q_bD_11⟩:=bD.now.k12
    obtain ⟨f_bD_0,f_bD_1,f_bD_2,f_bD_3,f_bD_4,f_bD_5,f_bD_6,f_bD_7,f_bD_8,f_bD_9,f_bD_10,f_bD_11⟩:=bD.now.z12
    have q_bD_l:=bD.now.lt
    go_wp2_with fail
    rw [show D=noD 3 by rw [HD.out,if_pos trivial,if_neg (by omega)]]
    refine bodyPost_ret (v:=dnV (noD 3) none 0 none 0) (by simp [results,Try.results43,go_sem,dnV,noD,q_bD_l,q_bD_0,q_bD_1,q_bD_2,q_bD_3,q_bD_4,q_bD_5,q_bD_6,q_bD_7,q_bD_8,q_bD_9,q_bD_10,q_bD_11]) rfl (dn_no rfl ?_)
    iterate 12 (refine Below.setCell ?_ (by show w.heap.size<=w.heap.size+1;omega) _)
    exact hE
   obtain ⟨q_bS_0,q_bS_1,q_bS_2,q_bS_3,q_bS_4,q_bS_5,q_bS_6,q_bS_7,q_bS_8,q_bS_9⟩:=bS.now.k10
   have q_bS_l:=bS.now.lt
   go_wp2_with fail
   clear q_bS_0 q_bS_1 q_bS_2 q_bS_3 q_bS_4 q_bS_5 q_bS_6 q_bS_7 q_bS_8 q_bS_9 q_bS_l
   have HK:Hid (∀ W,Below v5.heap.size v5 W->W.cell? ⟨w.heap.size,0,none⟩=some (.int .i64 (n:Int))/\W.cell? ⟨w.heap.size,2,none⟩=some (.int .i64 L)/\W.cell? ⟨w.heap.size,5,none⟩=some (.int .i64 F)/\W.cell? ⟨w.heap.size,7,none⟩=some (.int .i64 U)):=fun W hb=>⟨(bS.below hb).now.cell 0 _ rfl,(bS.below hb).now.cell 2 _ rfl,(bS.below hb).now.cell 5 _ rfl,(bS.below hb).now.cell 7 _ rfl⟩
   refine wp_region_held_drew (S:=fun w'=>w'.cell? ⟨w.heap.size,0,none⟩=some (.int .i64 (n:Int))/\w'.cell? ⟨w.heap.size,2,none⟩=some (.int .i64 L)/\w'.cell? ⟨w.heap.size,5,none⟩=some (.int .i64 F)/\w'.cell? ⟨w.heap.size,7,none⟩=some (.int .i64 U)) (by kernel_rfl) (HK.out _ (Below.refl _ _).drew) (fun hHe=>?_)
   refine TY 0 (.slice a2 b.length c2) rfl hHe ?_
   simp only [PS]
   refine TY 2 (.pointer (some ⟨w.heap.size,2,none⟩)) rfl hHe ?_
   simp only [PS]
   refine TY 3 (.int .i64 L) rfl hHe ?_
   simp only [PS]
   refine TY 4 (.pointer (some ⟨w.heap.size,3,none⟩)) rfl hHe ?_
   simp only [PS]
   refine TY 5 (.pointer (some ⟨w.heap.size,5,none⟩)) rfl hHe ?_
   simp only [PS]
   refine TY 6 (.int .i64 F) rfl hHe ?_
   simp only [PS]
   refine TY 7 (.pointer (some ⟨w.heap.size,7,none⟩)) rfl hHe ?_
   simp only [PS]
   refine TY 8 (.int .i64 U) rfl hHe ?_
   simp only [PS]
   refine TY 9 (.int .i64 (F+U)) rfl hHe ?_
   simp only [PS]
   refine TY 10 (.pointer (some ⟨w.heap.size,0,none⟩)) rfl hHe ?_
   simp only [PS]
   refine TY 11 (.int .i64 (n:Int)) rfl hHe ?_
   simp only [PS]
   refine RD 1 rfl (fun K hK=>?_)
   refine step_call (by rfl) 57 #[.slice a2 b.length c2] (by go_simp) (HF.out _ ((h2.below hE).below (Below.refl _ _).drew)) ?_
   rintro e u1 ⟨rfl,hb_u⟩
   refine ⟨_,rfl,?_⟩
   have hb_u':Below v5.heap.size v5 u1:=(Below.refl _ _).drew.trans hb_u
   refine hK.out _ _ (HK.out _ hb_u') (fun hHd1=>?_)
   clear hK K
   try simp only [PS]
   refine RD 12 rfl (fun K hK=>?_)
   refine step_call (by rfl) 56 #[.string bo,.int .i64 L,.int .i64 (F+U),.int .i64 (n:Int)] (by go_simp) (HCT.out _) ?_
   rintro e u2 ⟨a8,c8,rfl,ho8,hg8,hb_v⟩
   refine ⟨_,rfl,?_⟩
   have hb_v':=hb_u'.trans (hb_v.mono hb_u'.size)
   refine hK.out _ _ (HK.out _ hb_v') (fun hHd2=>?_)
   clear hK K
   try simp only [PS]
   refine RD 13 rfl (fun K hK=>?_)
   go_simp
   refine hK.out _ _ hHd2 (fun _=>?_)
   clear hK K
   try simp only [PS]
   refine DN ?_
   have hg8':∀ g,blk a8 cut.length=some g->v5.heap.size<=g:=fun g hg=>Nat.le_trans hb_u'.size (hg8 g hg)
   have dC:Dep u2 v5.heap.size u2.heap.size (fun W=>OwnS W a8 (cut.map Value.string)):=dep_own ho8 (fun h e=>h (by rw [List.eq_nil_of_length_eq_zero e];rfl)) hg8'
   have hb:=hb_v'
   clear HK hb_u hb_u' hb_v hb_v' hg8 hg8' ho8 hHe hHd1 hHd2
   have s_u2:v5.heap.size<=u2.heap.size:=hb.size
   have n_bS:=bS.below hb
   clear bS
   have bS:=n_bS
   clear n_bS
   have n_bD:=bD.below hb
   clear bD
   have bD:=n_bD
   clear n_bD
   have n_dA:=dA.below hb
   clear dA
   have dA:=n_dA
   clear n_dA
   have n_bR:=bR.below hb
   clear bR
   have bR:=n_bR
   clear n_bR
   have n_hE:=hE.trans (hb.mono hE.size)
   clear hE
   have hE:=n_hE
   clear n_hE
   clear hb
   by_cases hp:N<=Q-U
   case neg =>
    have hp':Q-U<(cut.length:Int):=by omega
    obtain ⟨q_bS_0,q_bS_1,q_bS_2,q_bS_3,q_bS_4,q_bS_5,q_bS_6,q_bS_7,q_bS_8,q_bS_9⟩:=bS.now.k10
    have q_bS_l:=bS.now.lt
    obtain ⟨q_bD_0,q_bD_1,q_bD_2,q_bD_3,q_bD_4,q_bD_5,q_bD_6,q_bD_7,q_bD_8,q_bD_9,q_bD_10,q_bD_11⟩:=bD.now.k12
    obtain ⟨f_bD_0,f_bD_1,f_bD_2,f_bD_3,f_bD_4,f_bD_5,f_bD_6,f_bD_7,f_bD_8,f_bD_9,f_bD_10,f_bD_11⟩:=bD.now.z12
    have q_bD_l:=bD.now.lt
    go_wp2_with fail
    rw [show D=noD 4 by rw [HD.out,if_pos trivial,if_pos hr,if_neg (by omega)]]
    refine bodyPost_ret (v:=dnV (noD 4) none 0 none 0) (by simp [results,Try.results43,go_sem,dnV,noD,q_bD_l,q_bD_0,q_bD_1,q_bD_2,q_bD_3,q_bD_4,q_bD_5,q_bD_6,q_bD_7,q_bD_8,q_bD_9,q_bD_10,q_bD_11]) rfl (dn_no rfl ?_)
    iterate 12 (refine Below.setCell ?_ (by show w.heap.size<=w.heap.size+1;omega) _)
    exact hE
   have hp':(cut.length:Int)<=Q-U:=by omega
   obtain ⟨q_bS_0,q_bS_1,q_bS_2,q_bS_3,q_bS_4,q_bS_5,q_bS_6,q_bS_7,q_bS_8,q_bS_9⟩:=bS.now.k10
   have q_bS_l:=bS.now.lt
   have q_bR_0:=bR.now.cell 0 _ rfl
   have q_bR_l:=bR.now.lt
   go_wp2_with fail
   clear q_bS_0 q_bS_1 q_bS_2 q_bS_3 q_bS_4 q_bS_5 q_bS_6 q_bS_7 q_bS_8 q_bS_9 q_bS_l q_bR_0 q_bR_l
   obtain ⟨w9,e9⟩:∃ x,x=(u2.alloc (.cells #[.int .i64 (n:Int),.int .i64 S,.int .i64 L,.int .i64 T,.int .i64 H,.int .i64 F,.int .i64 R,.int .i64 U,.int .i64 O,.slice a5 A1.length c5] 79)).alloc (.cells #[] 34):=⟨_,rfl⟩
   have hb9:Below u2.heap.size u2 w9:=by rw [e9];exact ((Below.refl _ _).alloc (Nat.le_refl _) _).alloc (by simp) _
   have hr9:Row w9 u2.heap.size [.int .i64 (n:Int),.int .i64 S,.int .i64 L,.int .i64 T,.int .i64 H,.int .i64 F,.int .i64 R,.int .i64 U,.int .i64 O,.slice a5 A1.length c5]:=by rw [e9];exact (row_new u2 _ _).alloc _
   have ho9:w9.ownsRow (u2.heap.size+1) 34 3 (.slice (some ⟨u2.heap.size+1,0,none⟩) 0 0) 0 []:=by
    have:=World.ownsRow_lit (u2.alloc (.cells #[.int .i64 (n:Int),.int .i64 S,.int .i64 L,.int .i64 T,.int .i64 H,.int .i64 F,.int .i64 R,.int .i64 U,.int .i64 O,.slice a5 A1.length c5] 79)) (base:=u2.heap.size+1) (e:=34) (size:=3) #[] 0 (by simp) (by simp) (by simp)
    rw [e9];simpa using this
   rw [<-e9]
   clear e9
   have HR9:=hid hr9
   have HO9:=hid ho9
   have HB9:=hid hb9
   clear hr9 ho9 hb9
   go_loopw [10,11] (fun y i wr=>∃ k:Nat,k<=cut.length/\i=.int .i64 (k:Int)/\Row wr u2.heap.size [.int .i64 (n:Int),.int .i64 S,.int .i64 L,.int .i64 T,.int .i64 H,.int .i64 F,.int .i64 R,.int .i64 (U+(k:Int)),.int .i64 (O+(k:Int)),.slice a5 A1.length c5]/\wr.ownsRow (u2.heap.size+1) 34 3 y k (opcells (putOps (q+U) (cut.take k)))/\Below u2.heap.size u2 wr) (fun _ i _=>cut.length-(intOf i).toNat)
   case atStart=>exact ⟨0,Nat.zero_le _,rfl,by simpa using HR9.out,by simpa [putOps,opcells] using HO9.out,HB9.out⟩
   case round =>
    obtain ⟨k,hk,rfl,hrw,how,hbl⟩:=hrel
    have hsr:=hrw.lt
    have hbz:u2.heap.size<=wr.heap.size:=hbl.size
    obtain ⟨ya,yc,rfl⟩:∃ ya yc,u10=Value.slice ya k yc:=by
     rcases owns_forms how with ⟨e1,e2⟩ | ⟨g,cap,e1,_⟩
     ·exact ⟨none,0,by rw [e1,e2]⟩
     ·exact ⟨_,cap,e1⟩
    have hkN:(k:Int)<=N:=by omega
    by_cases hlt:k<cut.length
    ·obtain ⟨g8,rfl,hr8⟩:=dC.now.resolve_left (by intro e;have:=congrArg List.length e;simp at this;rw [this] at hlt;simp at hlt)
     have hg8:=hr8.lt
     have hck:=hr8.cell k (.string (cut.getD k ByteArray.empty)) (by simp [hlt,List.getD])
     obtain ⟨pk,hpk⟩:∃ pk,pk=cut.getD k ByteArray.empty:=⟨_,rfl⟩
     rw [<-hpk] at hck
     have hlt':(k:Int)<(cut.length:Int):=by omega
     have hk0:(0:Int)<=(k:Int):=by omega
     have hx0:IntKind.i64.wrap (q+(U+(k:Int)))=q+(U+(k:Int)):=by simp [IntKind.wrap,IntKind.bits,IntKind.signed];omega
     have hx1:IntKind.i64.wrap (U+(k:Int)+1)=U+(k:Int)+1:=by simp [IntKind.wrap,IntKind.bits,IntKind.signed];omega
     have hx2:IntKind.i64.wrap (O+(k:Int)+1)=O+(k:Int)+1:=by simp [IntKind.wrap,IntKind.bits,IntKind.signed];omega
     have hu2w:w.heap.size<u2.heap.size:=by omega
     have HK:Hid (∀ W,Below (u2.heap.size+1) wr W->W.cell? ⟨w.heap.size,1,none⟩=some (.int .i64 S)/\W.cell? ⟨w.heap.size,4,none⟩=some (.int .i64 H)/\W.cell? ⟨u2.heap.size,7,none⟩=some (.int .i64 (U+(k:Int)))/\W.cell? ⟨g8,k,none⟩=some (.string pk)):=fun W hb=>⟨(hb.cell (p:=⟨w.heap.size,1,none⟩) (by show w.heap.size<_;omega)).trans ((hbl.cell (p:=⟨w.heap.size,1,none⟩) hu2w).trans (bS.now.cell 1 _ rfl)),(hb.cell (p:=⟨w.heap.size,4,none⟩) (by show w.heap.size<_;omega)).trans ((hbl.cell (p:=⟨w.heap.size,4,none⟩) hu2w).trans (bS.now.cell 4 _ rfl)),(hb.cell (p:=⟨u2.heap.size,7,none⟩) (by show u2.heap.size<_;omega)).trans (hrw.cell 7 _ rfl),(hb.cell (p:=⟨g8,k,none⟩) (by show g8<_;omega)).trans ((hbl.cell (p:=⟨g8,k,none⟩) hg8).trans hck)⟩
     have HRW:=hid hrw
     have HOW:=hid how
     have HBL:=hid hbl
     have HPK:=hid hpk
     clear hrw how hbl hpk hck hr8
     go_wp2_with fail
     refine wp_region_held_drew (S:=fun w'=>w'.cell? ⟨w.heap.size,1,none⟩=some (.int .i64 S)/\w'.cell? ⟨w.heap.size,4,none⟩=some (.int .i64 H)/\w'.cell? ⟨u2.heap.size,7,none⟩=some (.int .i64 (U+(k:Int)))/\w'.cell? ⟨g8,k,none⟩=some (.string pk)) (by kernel_rfl) (HK.out _ (Below.refl _ _).drew) (fun hHe=>?_)
     refine TY 0 (.slice ya k yc) rfl hHe ?_
     simp only [PS]
     refine TY 1 (.pointer (some ⟨w.heap.size,1,none⟩)) rfl hHe ?_
     simp only [PS]
     refine TY 2 (.int .i64 S) rfl hHe ?_
     simp only [PS]
     refine TY 3 (.pointer (some ⟨w.heap.size,3,none⟩)) rfl hHe ?_
     simp only [PS]
     refine TY 4 (.pointer (some ⟨w.heap.size,4,none⟩)) rfl hHe ?_
     simp only [PS]
     refine TY 5 (.int .i64 H) rfl hHe ?_
     simp only [PS]
     refine TY 7 (.pointer (some ⟨u2.heap.size,7,none⟩)) rfl hHe ?_
     simp only [PS]
     refine TY 8 (.int .i64 (U+(k:Int))) rfl hHe ?_
     simp only [PS]
     refine TY 10 (.slice (some ⟨g8,0,none⟩) cut.length c8) rfl hHe ?_
     simp only [PS]
     refine TY 11 (.int .i64 (k:Int)) rfl hHe ?_
     simp only [PS]
     refine TY 12 (.pointer (some ⟨g8,k,none⟩)) rfl hHe ?_
     simp only [PS]
     refine TY 13 (.string pk) rfl hHe ?_
     simp only [PS]
     refine RD 6 rfl (fun K hK=>?_)
     refine step_call (by rfl) 59 #[.int .i64 S,.int .i64 H] (by go_simp) (HB.out _) ?_
     rintro e wz ⟨rfl,rfl⟩
     refine ⟨_,rfl,?_⟩
     refine hK.out _ _ hHe (fun _=>?_)
     clear hK K
     try simp only [PS]
     refine TY 9 (.int .i64 (q+(U+(k:Int)))) rfl hHe ?_
     simp only [PS]
     refine RD 14 rfl (fun K hK=>?_)
     refine step_call (by rfl) 58 #[.int .i64 (q+(U+(k:Int))),.string pk] (by go_simp) (put_s _ _ _) ?_
     rintro e w4 ⟨rfl,hb4⟩
     refine ⟨_,rfl,?_⟩
     have hb4':Below wr.heap.size wr w4:=(Below.refl _ _).drew.trans hb4
     have HOA:=hid ((owns_below HOW.out hb4').alloc (.cells #[.bool false,.int .i64 (q+(U+(k:Int))),.string pk] 34))
     have hs4:u2.heap.size+1<=w4.heap.size:=Nat.le_trans hsr hb4'.size
     refine hK.out _ _ (HK.out _ (hb4'.mono hsr)) (fun hHd2=>?_)
     clear hK K
     try simp only [PS]
     refine RD 15 rfl (fun K hK=>?_)
     go_simp
     refine hK.out _ _ (HK.out _ ((hb4'.mono hsr).alloc hs4 _)) (fun hHd3=>?_)
     clear hK K
     try simp only [PS]
     refine RD 16 rfl (fun K hK=>?_)
     refine SAL _ (by rfl) _ _ _ (by rfl) (u2.heap.size+1) Try.underlying27 HI.out rfl (by omega) (.slice ya k yc) k _ (by rfl) HOA.out ⟨w4.heap.size,0,none⟩ 1 1 [.bool false,.int .i64 (q+(U+(k:Int))),.string pk] (by rfl) rfl (World.news_of_block (heap_alloc_new w4 _)) (oneOp _ _ _) (by simp<;>omega) (w4.heap.size+1) (by simp) ?_
     intro g9 cap9 w5 hown9 hgrow9 hat9 hlt9
     have hb5:Below (u2.heap.size+1) wr w5:=((hb4'.mono hsr).alloc hs4 _).trans (below_of_grown hgrow9 (by simp;omega) (fun j hj=>(HOW.out.lt j hj).1))
     have HO5:=hid hown9
     have HB5:=hid hb5
     have hr5:=HRW.out.below2 (N:=u2.heap.size+1) (by omega) hb5
     have HR5:=hid hr5
     have q57:=hr5.cell 7 _ rfl
     have q58:=hr5.cell 8 _ rfl
     have f57:=hr5.froz 7 (by simp)
     have f58:=hr5.froz 8 (by simp)
     have l5:=hr5.lt
     clear hown9 hgrow9 hat9 hr5
     refine hK.out _ _ (HK.out _ hb5) (fun hHd4=>?_)
     clear hK K
     try simp only [PS]
     refine RD 17 rfl (fun K hK=>?_)
     go_simp
     refine hK.out _ _ hHd4 (fun _=>?_)
     clear hK K
     try simp only [PS]
     refine DN ?_
     clear hb5
     go_wp2_with fail
     have hsn:putOps (q+U) (cut.take (k+1))=putOps (q+U) (cut.take k)++[(false,q+U+(k:Int),pk)]:=by rw [takeR_snoc cut k ByteArray.empty hlt,putOps_snoc,<-HPK.out,List.length_take,show min k cut.length=k by omega]
     refine ⟨⟨k+1,by omega,by go_num,?_,?_,?_⟩,by simp [intOf];omega⟩
     ·have:=(HR5.out.set 7 (by simp) (.int .i64 (U+(k:Int)+1))).set 8 (by simp) (.int .i64 (O+(k:Int)+1))
      simp only [List.set_cons_zero,List.set_cons_succ] at this
      have e1:U+((k+1:Nat):Int)=U+(k:Int)+1:=by omega
      have e2:O+((k+1:Nat):Int)=O+(k:Int)+1:=by omega
      rw [e1,e2];exact this
     ·rw [hsn,opcells_append]
      have:=owns_span HO5.out (w':=(w5.setCell ⟨u2.heap.size,7,none⟩ (.int .i64 (U+(k:Int)+1))).setCell ⟨u2.heap.size,8,none⟩ (.int .i64 (O+(k:Int)+1))) (fun b h1 h2=>by rw [Below.heap_setCell _ _ _ b (by show b≠u2.heap.size;omega),Below.heap_setCell _ _ _ b (by show b≠u2.heap.size;omega)])
      have e3:q+U+(k:Int)=q+(U+(k:Int)):=by omega
      rw [e3];exact this
     ·exact ((HBL.out.trans (HB5.out.mono (by omega))).setCell (p:=⟨u2.heap.size,7,none⟩) (Nat.le_refl _) _).setCell (p:=⟨u2.heap.size,8,none⟩) (Nat.le_refl _) _
    ·have hkl:k=cut.length:=by omega
     subst hkl
     have hrD:=row_same (bD.now) (hbl.block (w.heap.size+1) (by omega)) (by omega)
     obtain ⟨q_bD_0,q_bD_1,q_bD_2,q_bD_3,q_bD_4,q_bD_5,q_bD_6,q_bD_7,q_bD_8,q_bD_9,q_bD_10,q_bD_11⟩:=hrD.k12
     obtain ⟨f_bD_0,f_bD_1,f_bD_2,f_bD_3,f_bD_4,f_bD_5,f_bD_6,f_bD_7,f_bD_8,f_bD_9,f_bD_10,f_bD_11⟩:=hrD.z12
     obtain ⟨o_0,o_1,o_2,o_3,o_4,o_5,o_6,o_7,o_8,o_9⟩:=hrw.k10
     have hlD:=hrD.lt
     have hdA:=(dA.below hbl).now
     have HBL:=hid hbl
     have HOW:=hid how
     have HDA:=hid hdA
     clear hrD hrw how hbl hdA
     go_wp2_with fail
     rw [List.take_length] at HOW
     rw [show D=(⟨0,(n:Int),S,L,T,H,F,R,U+N,O+N,A1,putOps (q+U) cut⟩:Dd) by rw [HD.out,if_pos trivial,if_pos hr,if_pos hp],<-hcl']
     have hyc:∀ g,blk ya cut.length=some g->u2.heap.size+1<=g:=fun g hg=>by
      unfold blk at hg
      split at hg
      ·cases hg
      ·cases ya with
       | none=>cases hg
       | some ad=>simp at hg;subst hg;exact (HOW.out.lt ad.block rfl).1
     have hof:OwnS wr ya (opcells (putOps (q+U) cut)):=by
      rcases owns_forms HOW.out with ⟨_,e2⟩ | ⟨g,cap,e1,_,_,e4⟩
      ·exact .inl (by rw [List.eq_nil_of_length_eq_zero e2];rfl)
      ·cases e1;exact .inr ⟨g,rfl,e4⟩
     have hpl:(putOps (q+U) cut).length=cut.length:=putOps_length _ _
     refine bodyPost_ret (v:=dnV ⟨0,(n:Int),S,L,T,H,F,R,U+(cut.length:Int),O+(cut.length:Int),A1,putOps (q+U) cut⟩ a5 c5 ya yc) (by simp [results,Try.results43,go_sem,dnV,putOps_length,q_bD_0,q_bD_1,q_bD_2,q_bD_3,q_bD_4,q_bD_5,q_bD_6,q_bD_7,q_bD_8,q_bD_9,q_bD_10,q_bD_11]) rfl ⟨a5,c5,ya,yc,rfl,hc5,⟨?_,?_,?_⟩,?_,?_,?_⟩
     ·iterate 12 (refine OwnS.set' ?_ _ (fun g hg hne=>by have:=lo5 g (by subst hg;exact blk_pos _ _ _ (ne_of_prcells hne));show w.heap.size+1≠g;omega) _)
      exact HDA.out
     ·iterate 12 (refine OwnS.set' ?_ _ (fun g hg hne=>by have:=hyc g (by subst hg;exact blk_pos _ _ _ (by have:=ne_of_opcells hne;rwa [hpl] at this));show w.heap.size+1≠g;omega) _)
      exact hof
     ·show Apart _ _ _ (putOps (q+U) cut).length
      rw [hpl]
      cases hb1:blk a5 A1.length with
      | none=>exact .inl hb1
      | some g =>
       cases hb2:blk ya cut.length with
       | none=>exact .inr (.inl hb2)
       | some g' =>
        have h1:=lo5 g hb1
        have h2:=hyc g' hb2
        refine .inr (.inr fun e=>?_)
        rw [hb1,hb2] at e
        cases e
        omega
     ·exact fun g hg=>by have:=lo5 g hg;omega
     ·exact fun g hg=>by change blk _ (putOps (q+U) cut).length=_ at hg;rw [hpl] at hg;have:=hyc g hg;omega
     ·iterate 12 (refine Below.setCell ?_ (by show w.heap.size<=w.heap.size+1;omega) _)
      exact hE.trans (HBL.out.mono hE.size)
end Go.Proofs.Ythdilmkbnpmdaaa
