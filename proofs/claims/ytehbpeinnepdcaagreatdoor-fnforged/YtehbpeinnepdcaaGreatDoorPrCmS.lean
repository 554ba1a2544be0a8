import Derived.Test.YtehbpeinnepdcaaGreatDoorPrG47
set_option maxHeartbeats 16000000
namespace Go.Proofs.YtehbpeinnepdcaaGreatDoor
open Go.RowKit
set_option linter.unusedVariables false
set_option linter.unusedSimpArgs false
set_option maxRecDepth 8000
theorem qjJ (W S L T H F R U O:Int) (a:Option Addr) (rs:List Pr) (c:Nat) (a2:Option Addr) (b:List Ch) (c2:Nat) (w:World) (h:Prs w a rs) (hl:rs.length<=1048576) (hs:∀ x∈rs,x.1.size<=1048576/\x.2.size<=1048576) (h2:Chs w a2 b) (eJ:b.length<=1048576) (dU:∀ x∈b,x.1.size<=1048576/\x.2.1.size<=1048576) :
  Calls Tryz.prog 73 #[QPD W S L T H F R U O a rs.length c,.slice a2 b.length c2] w fun x w'=>vx0 w w' x (QUx W S L T H F R U O rs b):=by
 obtain ⟨i0,eY,fH,fI,fJ⟩:=q5D vop;have HI:=hid (And.intro eY (And.intro fH (And.intro fI fJ)));clear eY fH fI fJ;have cW:=hid (fun w' h'=>ZHK W S L T H F R U O a rs c w' h' hl hs);have dM:=hid (fun w' h'=>xly a2 b c2 w' h' eJ dU);have dY:=hid (fun w' h' gG=>zg0 a rs c a2 b c2 w' h' hl hs gG eJ dU);unfold Qzi stV at dY;have gH:=JrM rs b;have eS:=hid (X7J rs b (fun x=>x.1.size<=1048576/\x.2.size<=1048576) hs dU);unfold QPD at cW ⊢;unfold QUx;obtain ⟨A1,eR⟩:∃ A1,Hid (A1=apR rs b):=⟨_,hid rfl⟩;obtain ⟨C1,fS⟩:∃ C1,Hid (C1=apC rs b):=⟨_,hid rfl⟩;rw [<-eR.out] at gH eS;rw [<-eR.out,<-fS.out] at dY ⊢
 cases hok:jWr W S L T H F R U O rs with
 | false =>
  rw [hok] at cW;simp only [Bool.false_and,Bool.false_eq_true,if_false];go_enter Tryz.func73,Tryz.ntmps73;go_wp2_with fail;obtain ⟨v0,e0⟩:∃ x,x=(w.alloc (.cells #[.int .i64 W,.int .i64 S,.int .i64 L,.int .i64 T,.int .i64 H,.int .i64 F,.int .i64 R,.int .i64 U,.int .i64 O,.slice a rs.length c] 33)).alloc (.cells #[.int .i64 0,.int .i64 0,.int .i64 0,.int .i64 0,.int .i64 0,.int .i64 0,.int .i64 0,.int .i64 0,.int .i64 0,.int .i64 0,.slice none 0 0,.slice none 0 0] 124):=⟨_,rfl⟩;have hE:Below w.heap.size w v0:=by rw [e0];exact ((Below.refl _ _).alloc (Nat.le_refl _) _).alloc (by simp) _
  have dK:w.heap.size+1+1<=v0.heap.size:=by rw [e0];simp
  have bS:Dep v0 w.heap.size (w.heap.size+1) (fun W'=>Row W' w.heap.size [.int .i64 W,.int .i64 S,.int .i64 L,.int .i64 T,.int .i64 H,.int .i64 F,.int .i64 R,.int .i64 U,.int .i64 O,.slice a rs.length c]):=by rw [e0];exact (zle w _ _).below ((Below.refl _ _).alloc (Nat.le_refl _) _)
  have bD:Dep v0 (w.heap.size+1) (w.heap.size+1+1) (fun W'=>Row W' (w.heap.size+1) [.int .i64 0,.int .i64 0,.int .i64 0,.int .i64 0,.int .i64 0,.int .i64 0,.int .i64 0,.int .i64 0,.int .i64 0,.int .i64 0,.slice none 0 0,.slice none 0 0]):=by rw [e0];exact xuV (j6Q (w:=w.alloc _) (by simp)) (Nat.le_refl _) (by omega) (by simp)
  rw [<-e0];clear e0;refine (cW.out _ (h.below hE)).mono ?_;rintro e v1 ⟨rfl,hb⟩;have dL:v0.heap.size<=v1.heap.size:=hb.size;have aD:=bS.below hb;clear bS;have bS:=aD;clear aD;have aC:=bD.below hb;clear bD;have bD:=aC;clear aC;have aE:=hE.trans (hb.mono hE.size);clear hE;have hE:=aE;clear aE;clear hb;obtain ⟨aF,aG,aH,aI,aJ,aK,aL,aM,aN,aO,aA,aB⟩:=bD.now.k12;obtain ⟨bQ,bU,bV,bW,bY,bZ,b7,b8,cC,cE,bH,bI⟩:=bD.now.z12;have aP:=bD.now.lt;go_wp2_with fail;refine bodyPost_ret (v:=dnV (noD 1) none 0 none 0) (by simp [results,Tryz.results73,go_sem,dnV,noD,aP,aF,aG,aH,aI,aJ,aK,aL,aM,aN,aO,aA,aB]) rfl (qJx rfl ?_)
  iterate 12 (refine Below.setCell ?_ (by show w.heap.size<=w.heap.size+1;omega) _)
  exact hE
 | true =>
  rw [hok] at cW;simp only [Bool.true_and]
  cases hokb:kpJ b with
  | false =>
   rw [hokb] at dM;simp only [Bool.false_eq_true,if_false];go_enter Tryz.func73,Tryz.ntmps73;go_wp2_with fail;obtain ⟨v0,e0⟩:∃ x,x=(w.alloc (.cells #[.int .i64 W,.int .i64 S,.int .i64 L,.int .i64 T,.int .i64 H,.int .i64 F,.int .i64 R,.int .i64 U,.int .i64 O,.slice a rs.length c] 33)).alloc (.cells #[.int .i64 0,.int .i64 0,.int .i64 0,.int .i64 0,.int .i64 0,.int .i64 0,.int .i64 0,.int .i64 0,.int .i64 0,.int .i64 0,.slice none 0 0,.slice none 0 0] 124):=⟨_,rfl⟩;have hE:Below w.heap.size w v0:=by rw [e0];exact ((Below.refl _ _).alloc (Nat.le_refl _) _).alloc (by simp) _
   have dK:w.heap.size+1+1<=v0.heap.size:=by rw [e0];simp
   have bS:Dep v0 w.heap.size (w.heap.size+1) (fun W'=>Row W' w.heap.size [.int .i64 W,.int .i64 S,.int .i64 L,.int .i64 T,.int .i64 H,.int .i64 F,.int .i64 R,.int .i64 U,.int .i64 O,.slice a rs.length c]):=by rw [e0];exact (zle w _ _).below ((Below.refl _ _).alloc (Nat.le_refl _) _)
   have bD:Dep v0 (w.heap.size+1) (w.heap.size+1+1) (fun W'=>Row W' (w.heap.size+1) [.int .i64 0,.int .i64 0,.int .i64 0,.int .i64 0,.int .i64 0,.int .i64 0,.int .i64 0,.int .i64 0,.int .i64 0,.int .i64 0,.slice none 0 0,.slice none 0 0]):=by rw [e0];exact xuV (j6Q (w:=w.alloc _) (by simp)) (Nat.le_refl _) (by omega) (by simp)
   rw [<-e0];clear e0;refine (cW.out _ (h.below hE)).mono ?_;rintro e v1 ⟨rfl,hb⟩;have dL:v0.heap.size<=v1.heap.size:=hb.size;have aD:=bS.below hb;clear bS;have bS:=aD;clear aD;have aC:=bD.below hb;clear bD;have bD:=aC;clear aC;have aE:=hE.trans (hb.mono hE.size);clear hE;have hE:=aE;clear aE;clear hb;go_wp2_with fail;refine (dM.out _ (h2.below hE)).mono ?_;rintro e v2 ⟨rfl,hb⟩;have eQ:v1.heap.size<=v2.heap.size:=hb.size;have aD:=bS.below hb;clear bS;have bS:=aD;clear aD;have aC:=bD.below hb;clear bD;have bD:=aC;clear aC;have aE:=hE.trans (hb.mono hE.size);clear hE;have hE:=aE;clear aE;clear hb;obtain ⟨aF,aG,aH,aI,aJ,aK,aL,aM,aN,aO,aA,aB⟩:=bD.now.k12;obtain ⟨bQ,bU,bV,bW,bY,bZ,b7,b8,cC,cE,bH,bI⟩:=bD.now.z12;have aP:=bD.now.lt;go_wp2_with fail;refine bodyPost_ret (v:=dnV (noD 1) none 0 none 0) (by simp [results,Tryz.results73,go_sem,dnV,noD,aP,aF,aG,aH,aI,aJ,aK,aL,aM,aN,aO,aA,aB]) rfl (qJx rfl ?_)
   iterate 12 (refine Below.setCell ?_ (by show w.heap.size<=w.heap.size+1;omega) _)
   exact hE
  | true =>
   rw [hokb] at dM;simp only [if_true];obtain ⟨hW,hS,gJ,hT,hH,hF,hU,hO,_⟩:=qTq hok;have hQ:=QU8 hS;clear hok hokb;have HH:=hid (fun w'=>QQj S w');have HB:=hid (fun w'=>Qjv S H hH.1 hH.2 w');obtain ⟨n,rfl⟩:∃ n:Nat,W=(n:Int):=⟨W.toNat,by omega⟩;have en:(n:Int).toNat=n:=by omega
   rw [en];obtain ⟨m,hm⟩:∃ m,m=56-n:=⟨_,rfl⟩;rw [<-hm];have eZ:n+m=56:=by omega
   clear en hm;have HF:=hid (fun w' h'=>Qqx a2 b c2 w' h' eJ dU);have gL:=ks4 b;have eB:=hid (fun w'=>yBz (jvj b) L (F+U) n m w' (by omega) eZ (by omega) (by omega));have fA:=zpD (jvj b).size (n:Int) (by omega) (by omega);have eV:=yGh (jvj b) L (F+U) n m eZ (by omega) (by omega) gJ (by omega);obtain ⟨Q,HQ⟩:∃ Q,Hid (Q=hv S):=⟨_,hid rfl⟩;obtain ⟨N,HN⟩:∃ N,Hid (N=JFN (jvj b).size (n:Int)):=⟨_,hid rfl⟩;obtain ⟨bo,cO⟩:∃ bo,bo=jvj b:=⟨_,rfl⟩;obtain ⟨bG,hcut⟩:∃ bG,bG=zhI (jvj b) L (F+U) n m:=⟨_,rfl⟩;have eI:(bG.length:Int)=N:=by rw [hcut,HN.out];exact eV (by omega)
   rw [<-hcut] at eB ⊢;rw [<-cO] at HF eB gL fA;rw [<-cO] at HN;rw [<-HN.out] at fA;rw [<-HQ.out] at hQ hU HH HB ⊢;rw [<-cO,<-HN.out];clear eV hcut cO;obtain ⟨q,hq⟩:∃ q,q=2+H*Q:=⟨_,rfl⟩
   have iD:2<=q/\q<=101:=by
    rcases (show H=0\/H=1 by omega) with e | e
    ·subst e;omega
    ·subst e;omega
   rw [<-hq] at HB ⊢;clear hq;obtain ⟨r,gD⟩:∃ r,Hid (r=xee (ZZG A1) (n:Int)):=⟨_,hid rfl⟩;have eT:=hid (fun a' c' w' h'=>JBO a' A1 c' (n:Int) w' h' (by omega) eS.out);have gS:=z3n (ZZG A1) (n:Int);have iF:=xwW A1;rw [<-gD.out] at eT gS ⊢;obtain ⟨D,HD⟩:∃ D,Hid (D=if C1=0 then if r<=Q-1 then if N<=Q-U then (⟨0,(n:Int),S,L,T,H,F,R,U+N,O+N,A1,qWl (q+U) bG⟩:Dd) else noD 4 else noD 3 else noD 2):=⟨_,hid rfl⟩;rw [<-HD.out];have iG:IntKind.i64.wrap (Q-1)=Q-1:=by simp [IntKind.wrap,IntKind.bits,IntKind.signed];omega
   have iH:IntKind.i64.wrap (Q-U)=Q-U:=by simp [IntKind.wrap,IntKind.bits,IntKind.signed];omega
   have iI:IntKind.i64.wrap (F+U)=F+U:=by simp [IntKind.wrap,IntKind.bits,IntKind.signed];omega
   go_enter Tryz.func73,Tryz.ntmps73;go_wp2_with fail;obtain ⟨v0,e0⟩:∃ x,x=(w.alloc (.cells #[.int .i64 (n:Int),.int .i64 S,.int .i64 L,.int .i64 T,.int .i64 H,.int .i64 F,.int .i64 R,.int .i64 U,.int .i64 O,.slice a rs.length c] 33)).alloc (.cells #[.int .i64 0,.int .i64 0,.int .i64 0,.int .i64 0,.int .i64 0,.int .i64 0,.int .i64 0,.int .i64 0,.int .i64 0,.int .i64 0,.slice none 0 0,.slice none 0 0] 124):=⟨_,rfl⟩;have hE:Below w.heap.size w v0:=by rw [e0];exact ((Below.refl _ _).alloc (Nat.le_refl _) _).alloc (by simp) _
   have dK:w.heap.size+1+1<=v0.heap.size:=by rw [e0];simp
   have bS:Dep v0 w.heap.size (w.heap.size+1) (fun W'=>Row W' w.heap.size [.int .i64 (n:Int),.int .i64 S,.int .i64 L,.int .i64 T,.int .i64 H,.int .i64 F,.int .i64 R,.int .i64 U,.int .i64 O,.slice a rs.length c]):=by rw [e0];exact (zle w _ _).below ((Below.refl _ _).alloc (Nat.le_refl _) _)
   have bD:Dep v0 (w.heap.size+1) (w.heap.size+1+1) (fun W'=>Row W' (w.heap.size+1) [.int .i64 0,.int .i64 0,.int .i64 0,.int .i64 0,.int .i64 0,.int .i64 0,.int .i64 0,.int .i64 0,.int .i64 0,.int .i64 0,.slice none 0 0,.slice none 0 0]):=by rw [e0];exact xuV (j6Q (w:=w.alloc _) (by simp)) (Nat.le_refl _) (by omega) (by simp)
   rw [<-e0];clear e0;refine (cW.out _ (h.below hE)).mono ?_;rintro e v1 ⟨rfl,hb⟩;have dL:v0.heap.size<=v1.heap.size:=hb.size;have aD:=bS.below hb;clear bS;have bS:=aD;clear aD;have aC:=bD.below hb;clear bD;have bD:=aC;clear aC;have aE:=hE.trans (hb.mono hE.size);clear hE;have hE:=aE;clear aE;clear hb;go_wp2_with fail;refine (dM.out _ (h2.below hE)).mono ?_;rintro e v2 ⟨rfl,hb⟩;have eQ:v1.heap.size<=v2.heap.size:=hb.size;have aD:=bS.below hb;clear bS;have bS:=aD;clear aD;have aC:=bD.below hb;clear bD;have bD:=aC;clear aC;have aE:=hE.trans (hb.mono hE.size);clear hE;have hE:=aE;clear aE;clear hb;obtain ⟨aQ,aR,aS,aT,aU,aV,aW,aX,aY,aZ⟩:=bS.now.k10;have bC:=bS.now.lt;go_wp2_with fail;clear aQ aR aS aT aU aV aW aX aY aZ bC;refine (dY.out _ (h.below hE) (h2.below hE)).mono ?_;rintro e v3 ⟨a5,c5,rfl,gM,ho,hg,hb⟩;have gW:v2.heap.size<=v3.heap.size:=hb.size;have aD:=bS.below hb;clear bS;have bS:=aD;clear aD;have aC:=bD.below hb;clear bD;have bD:=aC
   clear aC;have aE:=hE.trans (hb.mono hE.size);clear hE;have hE:=aE;clear aE;have dA:Dep v3 v2.heap.size v3.heap.size (fun W=>OwnS W a5 (qJS A1)):=JKD ho ZDV hg
   have eP:∀ g,blk a5 A1.length=some g->v2.heap.size<=g/\g<v3.heap.size:=fun g eX=>⟨hg g eX,ho.lt _ (fun h e=>h (by have:=congrArg List.length e;rw [vzd,List.length_nil] at this;omega)) g eX⟩
   clear ho hg;clear hb
   by_cases hC:C1=0
   case neg =>
    obtain ⟨aF,aG,aH,aI,aJ,aK,aL,aM,aN,aO,aA,aB⟩:=bD.now.k12;obtain ⟨bQ,bU,bV,bW,bY,bZ,b7,b8,cC,cE,bH,bI⟩:=bD.now.z12;have aP:=bD.now.lt;go_wp2_with fail;rw [show D=noD 2 by rw [HD.out,if_neg hC]];refine bodyPost_ret (v:=dnV (noD 2) none 0 none 0) (by simp [results,Tryz.results73,go_sem,dnV,noD,aP,aF,aG,aH,aI,aJ,aK,aL,aM,aN,aO,aA,aB]) rfl (qJx rfl ?_);refine (fun eG=>Below.alloc eG (Below.size eG) _) ?_
    iterate 12 (refine Below.setCell ?_ (by show w.heap.size<=w.heap.size+1;omega) _)
    exact hE
   have gZ:=hid hC;subst hC;obtain ⟨aQ,aR,aS,aT,aU,aV,aW,aX,aY,aZ⟩:=bS.now.k10;have bC:=bS.now.lt;go_wp2_with (go_at_call 36;refine (HH.out _).mono ?_;rintro e wz ⟨rfl,fG⟩;rw [fG];clear fG wz);clear aQ aR aS aT aU aV aW aX aY aZ bC;obtain ⟨v4,cI⟩:∃ x,x=v3.alloc (.cells #[.slice a5 A1.length c5] 31):=⟨_,rfl⟩;have hb:Below v3.heap.size v3 v4:=by rw [cI];exact (Below.refl _ _).alloc (Nat.le_refl _) _
   have bR:Dep v4 v3.heap.size (v3.heap.size+1) (fun W=>Row W v3.heap.size [.slice a5 A1.length c5]):=by rw [cI];exact zle _ _ _
   have gX:v3.heap.size+1<=v4.heap.size:=by rw [cI];simp
   rw [<-cI];clear cI;have aD:=bS.below hb;clear bS;have bS:=aD;clear aD;have aC:=bD.below hb;clear bD;have bD:=aC;clear aC;have cH:=dA.below hb;clear dA;have dA:=cH;clear cH;have aE:=hE.trans (hb.mono hE.size);clear hE;have hE:=aE;clear aE;clear hb;refine (eT.out _ _ _ dA.now.prsA).mono ?_;rintro e v5 ⟨rfl,hb⟩;have gY:v4.heap.size<=v5.heap.size:=hb.size;have aD:=bS.below hb;clear bS;have bS:=aD;clear aD;have aC:=bD.below hb;clear bD;have bD:=aC;clear aC;have cH:=dA.below hb;clear dA;have dA:=cH;clear cH;have cM:=bR.below hb;clear bR;have bR:=cM;clear cM;have aE:=hE.trans (hb.mono hE.size);clear hE;have hE:=aE;clear aE;clear hb
   by_cases hr:r<=Q-1
   case neg =>
    have iE:Q-1<r:=by omega
    obtain ⟨aF,aG,aH,aI,aJ,aK,aL,aM,aN,aO,aA,aB⟩:=bD.now.k12;obtain ⟨bQ,bU,bV,bW,bY,bZ,b7,b8,cC,cE,bH,bI⟩:=bD.now.z12;have aP:=bD.now.lt;go_wp2_with fail;rw [show D=noD 3 by rw [HD.out,if_pos trivial,if_neg (by omega)]];refine bodyPost_ret (v:=dnV (noD 3) none 0 none 0) (by simp [results,Tryz.results73,go_sem,dnV,noD,aP,aF,aG,aH,aI,aJ,aK,aL,aM,aN,aO,aA,aB]) rfl (qJx rfl ?_)
    iterate 12 (refine Below.setCell ?_ (by show w.heap.size<=w.heap.size+1;omega) _)
    exact hE
   obtain ⟨aQ,aR,aS,aT,aU,aV,aW,aX,aY,aZ⟩:=bS.now.k10;have bC:=bS.now.lt;go_wp2_with fail;clear aQ aR aS aT aU aV aW aX aY aZ bC
   have HK:Hid (∀ W,Below v5.heap.size v5 W->W.cell? ⟨w.heap.size,0,none⟩=some (.int .i64 (n:Int))/\W.cell? ⟨w.heap.size,2,none⟩=some (.int .i64 L)/\W.cell? ⟨w.heap.size,5,none⟩=some (.int .i64 F)/\W.cell? ⟨w.heap.size,7,none⟩=some (.int .i64 U)):=fun W hb=>⟨(bS.below hb).now.cell 0 _ rfl,(bS.below hb).now.cell 2 _ rfl,(bS.below hb).now.cell 5 _ rfl,(bS.below hb).now.cell 7 _ rfl⟩
   refine wp_region_held_drew (S:=fun w'=>w'.cell? ⟨w.heap.size,0,none⟩=some (.int .i64 (n:Int))/\w'.cell? ⟨w.heap.size,2,none⟩=some (.int .i64 L)/\w'.cell? ⟨w.heap.size,5,none⟩=some (.int .i64 F)/\w'.cell? ⟨w.heap.size,7,none⟩=some (.int .i64 U)) (by kernel_rfl) (HK.out _ (Below.refl _ _).drew) (fun bJ=>?_);refine TY 0 (.slice a2 b.length c2) rfl bJ (TY 2 (.pointer (some ⟨w.heap.size,2,none⟩)) rfl bJ (TY 3 (.int .i64 L) rfl bJ (TY 4 (.pointer (some ⟨w.heap.size,3,none⟩)) rfl bJ (TY 5 (.pointer (some ⟨w.heap.size,5,none⟩)) rfl bJ (TY 6 (.int .i64 F) rfl bJ (TY 7 (.pointer (some ⟨w.heap.size,7,none⟩)) rfl bJ (TY 8 (.int .i64 U) rfl bJ (TY 9 (.int .i64 (F+U)) rfl bJ (TY 10 (.pointer (some ⟨w.heap.size,0,none⟩)) rfl bJ (TY 11 (.int .i64 (n:Int)) rfl bJ ?_))))))))));simp only [PS];refine RD 1 rfl (fun K hK=>?_);refine XRf (by rfl) _ _ (by go_simp) (HF.out _ ((h2.below hE).below (Below.refl _ _).drew)) ?_
   rintro e u1 ⟨rfl,cZ⟩;refine ⟨_,rfl,?_⟩;have cF:Below v5.heap.size v5 u1:=(Below.refl _ _).drew.trans cZ;refine hK.out _ _ (HK.out _ cF) (fun eC=>?_);clear hK K
   try simp only [PS]
   refine RD 12 rfl (fun K hK=>?_);refine XRf (by rfl) 94 #[.string bo,.int .i64 L,.int .i64 (F+U),.int .i64 (n:Int)] (by go_simp) (eB.out _) ?_;rintro e u2 ⟨a8,c8,rfl,fB,dO,dE⟩;refine ⟨_,rfl,?_⟩;have cK:=cF.trans (dE.mono cF.size);refine hK.out _ _ (HK.out _ cK) (fun cQ=>?_);clear hK K
   try simp only [PS]
   refine RD 13 rfl (fun K hK=>?_);go_simp;refine hK.out _ _ cQ (fun _=>?_);clear hK K
   try simp only [PS]
   refine DN ?_
   have dH:∀ g,blk a8 bG.length=some g->v5.heap.size<=g:=fun g hg=>Nat.le_trans cF.size (dO g hg)
   have dC:Dep u2 v5.heap.size u2.heap.size (fun W=>OwnS W a8 (bG.map Value.string)):=JKD fB (fun h e=>h (by rw [List.eq_nil_of_length_eq_zero e];rfl)) dH;have hb:=cK;clear HK cZ cF dE cK dO dH fB bJ eC cQ;have gV:v5.heap.size<=u2.heap.size:=hb.size;have aD:=bS.below hb;clear bS;have bS:=aD;clear aD;have aC:=bD.below hb;clear bD;have bD:=aC;clear aC;have cH:=dA.below hb;clear dA;have dA:=cH;clear cH;have cM:=bR.below hb;clear bR;have bR:=cM;clear cM;have aE:=hE.trans (hb.mono hE.size);clear hE;have hE:=aE;clear aE;clear hb
   by_cases hp:N<=Q-U
   case neg =>
    have gR:Q-U<(bG.length:Int):=by omega
    obtain ⟨aQ,aR,aS,aT,aU,aV,aW,aX,aY,aZ⟩:=bS.now.k10;have bC:=bS.now.lt;obtain ⟨aF,aG,aH,aI,aJ,aK,aL,aM,aN,aO,aA,aB⟩:=bD.now.k12;obtain ⟨bQ,bU,bV,bW,bY,bZ,b7,b8,cC,cE,bH,bI⟩:=bD.now.z12;have aP:=bD.now.lt;go_wp2_with fail;rw [show D=noD 4 by rw [HD.out,if_pos trivial,if_pos hr,if_neg (by omega)]];refine bodyPost_ret (v:=dnV (noD 4) none 0 none 0) (by simp [results,Tryz.results73,go_sem,dnV,noD,aP,aF,aG,aH,aI,aJ,aK,aL,aM,aN,aO,aA,aB]) rfl (qJx rfl ?_)
    iterate 12 (refine Below.setCell ?_ (by show w.heap.size<=w.heap.size+1;omega) _)
    exact hE
   have gR:(bG.length:Int)<=Q-U:=by omega
   obtain ⟨aQ,aR,aS,aT,aU,aV,aW,aX,aY,aZ⟩:=bS.now.k10;have bC:=bS.now.lt;have cT:=bR.now.cell 0 _ rfl;have cU:=bR.now.lt;go_wp2_with fail;clear aQ aR aS aT aU aV aW aX aY aZ bC cT cU;obtain ⟨w9,e9⟩:∃ x,x=(u2.alloc (.cells #[.int .i64 (n:Int),.int .i64 S,.int .i64 L,.int .i64 T,.int .i64 H,.int .i64 F,.int .i64 R,.int .i64 U,.int .i64 O,.slice a5 A1.length c5] 33)).alloc (.cells #[] 127):=⟨_,rfl⟩;have eU:Below u2.heap.size u2 w9:=by rw [e9];exact ((Below.refl _ _).alloc (Nat.le_refl _) _).alloc (by simp) _
   have fE:Row w9 u2.heap.size [.int .i64 (n:Int),.int .i64 S,.int .i64 L,.int .i64 T,.int .i64 H,.int .i64 F,.int .i64 R,.int .i64 U,.int .i64 O,.slice a5 A1.length c5]:=by rw [e9];exact (xER u2 _ _).alloc _
   have fC:w9.ownsRow (u2.heap.size+1) 127 3 (.slice (some ⟨u2.heap.size+1,0,none⟩) 0 0) 0 []:=by
    have:=World.ownsRow_lit (u2.alloc (.cells #[.int .i64 (n:Int),.int .i64 S,.int .i64 L,.int .i64 T,.int .i64 H,.int .i64 F,.int .i64 R,.int .i64 U,.int .i64 O,.slice a5 A1.length c5] 33)) (base:=u2.heap.size+1) (e:=127) (size:=3) #[] 0 (by simp) (by simp) (by simp);rw [e9];simpa using this
   rw [<-e9];clear e9;have fZ:=hid fE;have fV:=hid fC;have fQ:=hid eU;clear fE fC eU;go_loopw [10,11] (fun y i wr=>∃ k:Nat,k<=bG.length/\i=.int .i64 (k:Int)/\Row wr u2.heap.size [.int .i64 (n:Int),.int .i64 S,.int .i64 L,.int .i64 T,.int .i64 H,.int .i64 F,.int .i64 R,.int .i64 (U+(k:Int)),.int .i64 (O+(k:Int)),.slice a5 A1.length c5]/\wr.ownsRow (u2.heap.size+1) 127 3 y k (JFP (qWl (q+U) (bG.take k)))/\Below u2.heap.size u2 wr) (fun _ i _=>bG.length-(intOf i).toNat)
   case atStart=>exact ⟨0,Nat.zero_le _,rfl,by simpa using fZ.out,by simpa [qWl,JFP] using fV.out,fQ.out⟩
   case round =>
    obtain ⟨k,hk,rfl,cY,dI,cN⟩:=hrel;have dV:=cY.lt;have eG:u2.heap.size<=wr.heap.size:=cN.size
    obtain ⟨ya,yc,rfl⟩:∃ ya yc,u10=Value.slice ya k yc:=by
     rcases yUO dI with ⟨e1,e2⟩ | ⟨g,cap,e1,_⟩
     ·exact ⟨none,0,by rw [e1,e2]⟩
     ·exact ⟨_,cap,e1⟩
    have iB:(k:Int)<=N:=by omega
    by_cases dQ:k<bG.length
    ·obtain ⟨g8,rfl,eN⟩:=dC.now.resolve_left (by intro e;have:=congrArg List.length e;simp at this;rw [this] at dQ;simp at dQ)
     have dO:=eN.lt;have eH:=eN.cell k (.string (bG.getD k ByteArray.empty)) (by simp [dQ,List.getD]);obtain ⟨pk,eL⟩:∃ pk,pk=bG.getD k ByteArray.empty:=⟨_,rfl⟩;rw [<-eL] at eH;have gO:(k:Int)<(bG.length:Int):=by omega
     have iA:(0:Int)<=(k:Int):=by omega
     have iJ:IntKind.i64.wrap (q+(U+(k:Int)))=q+(U+(k:Int)):=by simp [IntKind.wrap,IntKind.bits,IntKind.signed];omega
     have iK:IntKind.i64.wrap (U+(k:Int)+1)=U+(k:Int)+1:=by simp [IntKind.wrap,IntKind.bits,IntKind.signed];omega
     have iL:IntKind.i64.wrap (O+(k:Int)+1)=O+(k:Int)+1:=by simp [IntKind.wrap,IntKind.bits,IntKind.signed];omega
     have dJ:w.heap.size<u2.heap.size:=by omega
     have HK:Hid (∀ W,Below (u2.heap.size+1) wr W->W.cell? ⟨w.heap.size,1,none⟩=some (.int .i64 S)/\W.cell? ⟨w.heap.size,4,none⟩=some (.int .i64 H)/\W.cell? ⟨u2.heap.size,7,none⟩=some (.int .i64 (U+(k:Int)))/\W.cell? ⟨g8,k,none⟩=some (.string pk)):=fun W hb=>⟨(hb.cell (p:=⟨w.heap.size,1,none⟩) (by show w.heap.size<_;omega)).trans ((cN.cell (p:=⟨w.heap.size,1,none⟩) dJ).trans (bS.now.cell 1 _ rfl)),(hb.cell (p:=⟨w.heap.size,4,none⟩) (by show w.heap.size<_;omega)).trans ((cN.cell (p:=⟨w.heap.size,4,none⟩) dJ).trans (bS.now.cell 4 _ rfl)),(hb.cell (p:=⟨u2.heap.size,7,none⟩) (by show u2.heap.size<_;omega)).trans (cY.cell 7 _ rfl),(hb.cell (p:=⟨g8,k,none⟩) (by show g8<_;omega)).trans ((cN.cell (p:=⟨g8,k,none⟩) dO).trans eH)⟩
     have gE:=hid cY;have cV:=hid dI;have dZ:=hid cN;have fX:=hid eL;clear cY dI cN eL eH eN;go_wp2_with fail;refine wp_region_held_drew (S:=fun w'=>w'.cell? ⟨w.heap.size,1,none⟩=some (.int .i64 S)/\w'.cell? ⟨w.heap.size,4,none⟩=some (.int .i64 H)/\w'.cell? ⟨u2.heap.size,7,none⟩=some (.int .i64 (U+(k:Int)))/\w'.cell? ⟨g8,k,none⟩=some (.string pk)) (by kernel_rfl) (HK.out _ (Below.refl _ _).drew) (fun bJ=>?_);refine TY 0 (.slice ya k yc) rfl bJ (TY 1 (.pointer (some ⟨w.heap.size,1,none⟩)) rfl bJ (TY 2 (.int .i64 S) rfl bJ (TY 3 (.pointer (some ⟨w.heap.size,3,none⟩)) rfl bJ (TY 4 (.pointer (some ⟨w.heap.size,4,none⟩)) rfl bJ (TY 5 (.int .i64 H) rfl bJ (TY 7 (.pointer (some ⟨u2.heap.size,7,none⟩)) rfl bJ (TY 8 (.int .i64 (U+(k:Int))) rfl bJ (TY 10 (.slice (some ⟨g8,0,none⟩) bG.length c8) rfl bJ (TY 11 (.int .i64 (k:Int)) rfl bJ (TY 12 (.pointer (some ⟨g8,k,none⟩)) rfl bJ (TY 13 (.string pk) rfl bJ ?_)))))))))))
     simp only [PS];refine RD 6 rfl (fun K hK=>?_);refine XRf (by rfl) 96 #[.int .i64 S,.int .i64 H] (by go_simp) (HB.out _) ?_;rintro e wz ⟨rfl,rfl⟩;refine ⟨_,rfl,?_⟩;refine hK.out _ _ bJ (fun _=>?_);clear hK K
     try simp only [PS]
     refine TY 9 (.int .i64 (q+(U+(k:Int)))) rfl bJ ?_;simp only [PS];refine RD 14 rfl (fun K hK=>?_);refine XRf (by rfl) 95 #[.int .i64 (q+(U+(k:Int))),.string pk] (by go_simp) (qcD _ _ _) ?_;rintro e w4 ⟨rfl,gK⟩;refine ⟨_,rfl,?_⟩;have cJ:Below wr.heap.size wr w4:=(Below.refl _ _).drew.trans gK;have fW:=hid ((jcb cV.out cJ).alloc (.cells #[.bool false,.int .i64 (q+(U+(k:Int))),.string pk] 127));have fF:u2.heap.size+1<=w4.heap.size:=Nat.le_trans dV cJ.size;refine hK.out _ _ (HK.out _ (cJ.mono dV)) (fun cQ=>?_);clear hK K
     try simp only [PS]
     refine RD 15 rfl (fun K hK=>?_);go_simp;refine hK.out _ _ (HK.out _ ((cJ.mono dV).alloc fF _)) (fun gI=>?_);clear hK K
     try simp only [PS]
     refine RD 16 rfl (fun K hK=>?_);refine SAL _ (by rfl) _ _ _ (by rfl) (u2.heap.size+1) Tryz.underlying122 HI.out rfl (by omega) (.slice ya k yc) k _ (by rfl) fW.out ⟨w4.heap.size,0,none⟩ 1 1 [.bool false,.int .i64 (q+(U+(k:Int))),.string pk] (by rfl) rfl (World.news_of_block (heap_alloc_new w4 _)) (JEq _ _ _) (by simp<;>omega) (w4.heap.size+1) (by simp) ?_;intro g9 gF w5 cP cL eF gP;have dN:Below (u2.heap.size+1) wr w5:=((cJ.mono dV).alloc fF _).trans (zRE cL (by simp;omega) (fun j hj=>(cV.out.lt j hj).1));have fU:=hid cP;have fO:=hid dN;have cS:=gE.out.below2 (N:=u2.heap.size+1) (by omega) dN;have fY:=hid cS;have iW:=cS.cell 7 _ rfl;have iX:=cS.cell 8 _ rfl;have g6:=cS.froz 7 (by simp);have hI:=cS.froz 8 (by simp);have l5:=cS.lt;clear cP cL eF cS;refine hK.out _ _ (HK.out _ dN) (fun eD=>?_);clear hK K
     try simp only [PS]
     refine RD 17 rfl (fun K hK=>?_);go_simp;refine hK.out _ _ eD (fun _=>?_);clear hK K
     try simp only [PS]
     refine DN ?_;clear dN;go_wp2_with fail;have gU:qWl (q+U) (bG.take (k+1))=qWl (q+U) (bG.take k)++[(false,q+U+(k:Int),pk)]:=by rw [QsK bG k ByteArray.empty dQ,yzD,<-fX.out,List.length_take,show min k bG.length=k by omega]
     refine ⟨⟨k+1,by omega,by go_num,?_,?_,?_⟩,by simp [intOf];omega⟩
     ·have:=(fY.out.set 7 (by simp) (.int .i64 (U+(k:Int)+1))).set 8 (by simp) (.int .i64 (O+(k:Int)+1))
      simp only [List.set_cons_zero,List.set_cons_succ] at this;have e1:U+((k+1:Nat):Int)=U+(k:Int)+1:=by omega
      have e2:O+((k+1:Nat):Int)=O+(k:Int)+1:=by omega
      rw [e1,e2];exact this
     ·rw [gU,xfH]
      have:=xMy fU.out (w':=(w5.setCell ⟨u2.heap.size,7,none⟩ (.int .i64 (U+(k:Int)+1))).setCell ⟨u2.heap.size,8,none⟩ (.int .i64 (O+(k:Int)+1))) (fun b h1 h2=>by rw [Below.heap_setCell _ _ _ b (by show b≠u2.heap.size;omega),Below.heap_setCell _ _ _ b (by show b≠u2.heap.size;omega)]);have e3:q+U+(k:Int)=q+(U+(k:Int)):=by omega
      rw [e3];exact this
     ·exact ((dZ.out.trans (fO.out.mono (by omega))).setCell (p:=⟨u2.heap.size,7,none⟩) (Nat.le_refl _) _).setCell (p:=⟨u2.heap.size,8,none⟩) (Nat.le_refl _) _
    ·have gN:k=bG.length:=by omega
     subst gN;have dR:=xbT (bD.now) (cN.block (w.heap.size+1) (by omega)) (by omega);obtain ⟨aF,aG,aH,aI,aJ,aK,aL,aM,aN,aO,aA,aB⟩:=dR.k12;obtain ⟨bQ,bU,bV,bW,bY,bZ,b7,b8,cC,cE,bH,bI⟩:=dR.z12;obtain ⟨iM,iN,iO,iP,iQ,iR,iS,iT,iU,iV⟩:=cY.k10;have iC:=dR.lt;have eW:=(dA.below cN).now;have dZ:=hid cN;have cV:=hid dI;have fT:=hid eW;clear dR cY dI cN eW;go_wp2_with fail;rw [List.take_length] at cV;rw [show D=(⟨0,(n:Int),S,L,T,H,F,R,U+N,O+N,A1,qWl (q+U) bG⟩:Dd) by rw [HD.out,if_pos trivial,if_pos hr,if_pos hp],<-eI]
     have eO:∀ g,blk ya bG.length=some g->u2.heap.size+1<=g:=fun g hg=>by
      unfold blk at hg
      split at hg
      ·cases hg
      ·cases ya with
       | none=>cases hg
       | some ad=>simp at hg;subst hg;exact (cV.out.lt ad.block rfl).1
     have gQ:OwnS wr ya (JFP (qWl (q+U) bG)):=by
      rcases yUO cV.out with ⟨_,e2⟩ | ⟨g,cap,e1,_,_,e4⟩
      ·exact .inl (by rw [List.eq_nil_of_length_eq_zero e2];rfl)
      ·cases e1;exact .inr ⟨g,rfl,e4⟩
     have eM:(qWl (q+U) bG).length=bG.length:=xp9 _ _;refine bodyPost_ret (v:=dnV ⟨0,(n:Int),S,L,T,H,F,R,U+(bG.length:Int),O+(bG.length:Int),A1,qWl (q+U) bG⟩ a5 c5 ya yc) (by simp [results,Tryz.results73,go_sem,dnV,xp9,aF,aG,aH,aI,aJ,aK,aL,aM,aN,aO,aA,aB]) rfl ⟨a5,c5,ya,yc,rfl,gM,⟨?_,?_,?_⟩,?_,?_,?_⟩
     ·iterate 12 (refine OwnS.set' ?_ _ (fun g hg eK=>by have:=eP g (by subst hg;exact qdd _ _ _ (Xnn eK));show w.heap.size+1≠g;omega) _)
      exact fT.out
     ·iterate 12 (refine OwnS.set' ?_ _ (fun g hg eK=>by have:=eO g (by subst hg;exact qdd _ _ _ (by have:=JFT eK;rwa [eM] at this));show w.heap.size+1≠g;omega) _)
      exact gQ
     ·show XKU _ _ _ (qWl (q+U) bG).length
      rw [eM]
      cases hb1:blk a5 A1.length with
      | none=>exact .inl hb1
      | some g =>
       cases hb2:blk ya bG.length with
       | none=>exact .inr (.inl hb2)
       | some g' =>
        have h1:=eP g hb1;have h2:=eO g' hb2;refine .inr (.inr fun e=>?_);rw [hb1,hb2] at e
        cases e
        omega
     ·exact fun g hg=>by have:=eP g hg;omega
     ·exact fun g hg=>by change blk _ (qWl (q+U) bG).length=_ at hg;rw [eM] at hg;have:=eO g hg;omega
     ·iterate 12 (refine Below.setCell ?_ (by show w.heap.size<=w.heap.size+1;omega) _)
      exact hE.trans (dZ.out.mono hE.size)
end Go.Proofs.YtehbpeinnepdcaaGreatDoor
