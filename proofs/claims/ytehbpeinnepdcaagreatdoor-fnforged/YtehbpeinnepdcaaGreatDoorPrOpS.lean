import Derived.Test.YtehbpeinnepdcaaGreatDoorPrG46
import Derived.Test.YtehbpeinnepdcaaGreatDoorPrMvS
set_option maxHeartbeats 16000000
namespace Go.Proofs.YtehbpeinnepdcaaGreatDoor
open Go.RowKit
set_option linter.unusedVariables false
set_option linter.unusedSimpArgs false
set_option maxRecDepth 8000
theorem yWt (x:Int) (h0:-9223372036854775808<=x) (h1:x<=9223372036854775807):IntKind.i64.wrap x=x:=by
 simp [IntKind.wrap,IntKind.bits,IntKind.signed];omega
theorem yKA {l:List Pr} (h:qJS l≠[]):l.length≠0:=fun e=>h (by rw [List.eq_nil_of_length_eq_zero e];rfl)
theorem QqR {l:List Pr} (h:l.length≠0):qJS l≠[]:=fun e=>h (by have:=congrArg List.length e;rw [vzd,List.length_nil] at this;omega)
theorem vBS {l:List ByteArray} (h:l.map Value.string≠[]):l.length≠0:=fun e=>h (by rw [List.eq_nil_of_length_eq_zero e];rfl)
theorem kl7 (a:Option Addr) (ss:List ByteArray) (c:Nat) (a':Option Addr) (ws:List (Int×ByteArray)) (c':Nat) (n:Int) (w:World) (h:Strs w a ss) (h':Wrs w a' ws) (hl:ss.length<=1048576) (fA:ws.length<=1048576) (hs:∀ s∈ss,s.size<=1048576) (fE:∀ x∈ws,x.2.size<=1048576) :
  Calls Tryz.prog 98 #[Zoj a ss.length c a' ws.length c',.int .i64 n] w fun x w'=>vx0 w w' x (Zfa ss ws n):=by
 have HV:=hid (fun (wx:World) k1 k2=>xpE a ss c a' ws c' wx k1 k2 hl fA hs fE);obtain ⟨D,HD⟩:∃ D,Hid (D=Zfa ss ws n):=⟨_,hid rfl⟩;rw [<-HD.out]
 by_cases bQ:vlG ss ws=true/\1<=n/\n<=8
 case neg =>
  have fV:=hid bQ
  cases cV:vlG ss ws with
  | false =>
   rw [cV] at HV;clear cV bQ;go_enter Tryz.func98,Tryz.ntmps98;go_wp2_with fail;obtain ⟨v0,e0⟩:∃ x,x=(w.alloc (.cells #[.slice a ss.length c,.slice a' ws.length c'] 26)).alloc (.cells #[.int .i64 0,.int .i64 0,.int .i64 0,.int .i64 0,.int .i64 0,.int .i64 0,.int .i64 0,.int .i64 0,.int .i64 0,.int .i64 0,.slice none 0 0,.slice none 0 0] 124):=⟨_,rfl⟩;have hE:Below w.heap.size w v0:=by rw [e0];exact ((Below.refl _ _).alloc (Nat.le_refl _) _).alloc (by simp) _
   have eL:w.heap.size+1+1<=v0.heap.size:=by rw [e0];simp
   have bA:Dep v0 w.heap.size (w.heap.size+1) (fun W'=>Row W' w.heap.size [.slice a ss.length c,.slice a' ws.length c']):=by rw [e0];exact (zle w _ _).below ((Below.refl _ _).alloc (Nat.le_refl _) _)
   have bD:Dep v0 (w.heap.size+1) (w.heap.size+1+1) (fun W'=>Row W' (w.heap.size+1) [.int .i64 0,.int .i64 0,.int .i64 0,.int .i64 0,.int .i64 0,.int .i64 0,.int .i64 0,.int .i64 0,.int .i64 0,.int .i64 0,.slice none 0 0,.slice none 0 0]):=by rw [e0];exact xuV (j6Q (w:=w.alloc _) (by simp)) (Nat.le_refl _) (by omega) (by simp)
   rw [<-e0];clear e0;refine (HV.out _ (h.below hE) (h'.below hE)).mono ?_;rintro e v1 ⟨rfl,hb⟩;have eM:v0.heap.size<=v1.heap.size:=hb.size;replace bA:=bA.below hb;replace bD:=bD.below hb;replace hE:=hE.trans (hb.mono hE.size);clear hb;obtain ⟨aC,aD,aE,aF,aG,aH,aI,aJ,aK,aL,aA,aB⟩:=bD.now.k12;obtain ⟨aV,aW,aX,aY,aZ,bC,bG,bH,bI,bJ,aS,aT⟩:=bD.now.z12;have aM:=bD.now.lt;go_wp2_with fail;rw [show D=noD 1 from HD.out.trans (ZJP fV.out)];refine bodyPost_ret (v:=dnV (noD 1) none 0 none 0) (by simp [results,Tryz.results98,go_sem,dnV,noD,aM,aC,aD,aE,aF,aG,aH,aI,aJ,aK,aL,aA,aB]) rfl (qJx rfl ?_)
   iterate 12 (refine Below.setCell ?_ (by show w.heap.size<=w.heap.size+1;omega) _)
   exact hE
  | true =>
   have hd:decide (1<=n/\n<=8)=false:=decide_eq_false (fun hh=>bQ ⟨cV,hh⟩);rw [cV] at HV;clear cV bQ;go_enter Tryz.func98,Tryz.ntmps98;go_wp2_with fail;obtain ⟨v0,e0⟩:∃ x,x=(w.alloc (.cells #[.slice a ss.length c,.slice a' ws.length c'] 26)).alloc (.cells #[.int .i64 0,.int .i64 0,.int .i64 0,.int .i64 0,.int .i64 0,.int .i64 0,.int .i64 0,.int .i64 0,.int .i64 0,.int .i64 0,.slice none 0 0,.slice none 0 0] 124):=⟨_,rfl⟩;have hE:Below w.heap.size w v0:=by rw [e0];exact ((Below.refl _ _).alloc (Nat.le_refl _) _).alloc (by simp) _
   have eL:w.heap.size+1+1<=v0.heap.size:=by rw [e0];simp
   have bA:Dep v0 w.heap.size (w.heap.size+1) (fun W'=>Row W' w.heap.size [.slice a ss.length c,.slice a' ws.length c']):=by rw [e0];exact (zle w _ _).below ((Below.refl _ _).alloc (Nat.le_refl _) _)
   have bD:Dep v0 (w.heap.size+1) (w.heap.size+1+1) (fun W'=>Row W' (w.heap.size+1) [.int .i64 0,.int .i64 0,.int .i64 0,.int .i64 0,.int .i64 0,.int .i64 0,.int .i64 0,.int .i64 0,.int .i64 0,.int .i64 0,.slice none 0 0,.slice none 0 0]):=by rw [e0];exact xuV (j6Q (w:=w.alloc _) (by simp)) (Nat.le_refl _) (by omega) (by simp)
   rw [<-e0];clear e0;refine (HV.out _ (h.below hE) (h'.below hE)).mono ?_;rintro e v1 ⟨rfl,hb⟩;have eM:v0.heap.size<=v1.heap.size:=hb.size;replace bA:=bA.below hb;replace bD:=bD.below hb;replace hE:=hE.trans (hb.mono hE.size);clear hb;have b8:=bA.now.cell 0 _ rfl;have cC:=bA.now.cell 1 _ rfl;have cE:=bA.now.lt;obtain ⟨aC,aD,aE,aF,aG,aH,aI,aJ,aK,aL,aA,aB⟩:=bD.now.k12;obtain ⟨aV,aW,aX,aY,aZ,bC,bG,bH,bI,bJ,aS,aT⟩:=bD.now.z12;have aM:=bD.now.lt;go_wp2_with (go_at_call 15;refine (X3C _ _).mono ?_;rw [hd];rintro e wz ⟨rfl,cY⟩;rw [cY];clear cY wz);rw [show D=noD 1 from HD.out.trans (ZJP fV.out)];refine bodyPost_ret (v:=dnV (noD 1) none 0 none 0) (by simp [results,Tryz.results98,go_sem,dnV,noD,aM,aC,aD,aE,aF,aG,aH,aI,aJ,aK,aL,aA,aB]) rfl (qJx rfl ?_)
   iterate 12 (refine Below.setCell ?_ (by show w.heap.size<=w.heap.size+1;omega) _)
   exact hE
 have hd:decide (1<=n/\n<=8)=true:=decide_eq_true bQ.2;rw [bQ.1] at HV;have hg:=zNB bQ;have fG:=qTB bQ;obtain ⟨⟨gG,gH,iG⟩,_,_⟩:=q67 bQ.1;have hQ:=QU8 (S:=(ss.length:Int)) (by omega);obtain ⟨T,H,F,R,eH⟩:∃ T H F R,frD ss ws n=(T,H,F,R):=⟨_,_,_,_,rfl⟩;obtain ⟨es,U,L,hX⟩:∃ es U L,opX ss ws n=(es,U,L):=⟨_,_,_,rfl⟩;have gE:scD ss ws (2+H*hv ss.length) (hv ss.length) F R n=(es,U,L):=by rw [<-hX];unfold opX;rw [eH]
 rw [eH] at hg;rw [hX] at fG;unfold k6M at hg;simp only at hg fG;obtain ⟨hT,hH,hF,hR⟩:=hg;obtain ⟨hU,hL,iF,gF⟩:=fG;have gM:=hid gF;clear gF;have eU:=hid (fun wx k1 k2=>kLE a ss c a' ws c' n wx k1 k2 hl fA hs fE);rw [eH] at eU;simp only [rtW] at eU;have dH:=hid (fun wx k1 k2=>(zlM a ss c a' ws c' (2+H*hv ss.length) (hv ss.length) F R n wx k1 k2 hl fA hs fE).mono (fun e w2 hh=>kFv hh));rw [gE] at dH;simp only [scV] at dH;have HH:=hid (fun wx=>QQj (ss.length:Int) wx);have HB:=hid (fun wx=>Qjv (ss.length:Int) H hH.1 hH.2 wx);have eT:=hid (fun ax cx wx k1=>qZW ax es cx wx k1 (by omega) (fun e he=>by have:=gM.out e he;omega));unfold z0i stV at eT;have cJ:=hid bQ;have dE:=hid eH;have eB:=hid hX;clear bQ eH hX gE
 have eR:Hid (qAf es []=none->D=noD 2):=fun hf=>HD.out.trans (vuT cJ.out eB.out hf)
 have eS:Hid (∀ rs,qAf es []=some rs->60000<L+1->D=noD 3):=fun rs hf h4=>HD.out.trans (yfb cJ.out eB.out hf h4)
 have eN:Hid (∀ rs,qAf es []=some rs->¬ 60000<L+1->hv ss.length-1<xee (ZZG rs) n->D=noD 4):=fun rs hf h4 h5=>HD.out.trans (jzU cJ.out eB.out hf h4 h5)
 have eO:Hid (∀ rs,qAf es []=some rs->¬ 60000<L+1->¬ hv ss.length-1<xee (ZZG rs) n->hv ss.length<=U->D=kGX n ss.length (L+1) T H F rs):=fun rs hf h4 h5 h6=>HD.out.trans (QeI cJ.out dE.out eB.out hf h4 h5 h6)
 have eC:Hid (∀ rs,qAf es []=some rs->¬ 60000<L+1->¬ hv ss.length-1<xee (ZZG rs) n->¬ hv ss.length<=U->D=⟨0,n,ss.length,L+1,T,H,F,R,U+1,0,rs,[(false,2+H*hv ss.length+U,ZQp 3 (L+1) (F+U) ByteArray.empty n),(true,0,ByteArray.empty)]⟩):=fun rs hf h4 h5 h6=>HD.out.trans (XMy cJ.out dE.out eB.out hf h4 h5 h6)
 have eP:Hid (∀ rs,¬ 60000<L+1->¬ hv ss.length-1<xee (ZZG rs) n->z5m n ss.length (L+1) T H F rs):=fun rs h4 h5=>⟨cJ.out.2,by omega,by omega,hT,hH,hF,by omega⟩
 clear dE eB HD;obtain ⟨Q,HQ⟩:∃ Q,Hid (Q=hv ss.length):=⟨_,hid rfl⟩;obtain ⟨q,hq⟩:∃ q,q=2+H*Q:=⟨_,rfl⟩;rw [<-HQ.out] at hQ hU dH HH HB eN eO eC eP;rw [<-hq] at dH HB eC;have iH:2<=q/\q<=101:=by have:=xYL hH (q:=Q) (by omega);omega
 clear hq;have iM:IntKind.i64.wrap (Q-1)=Q-1:=yWt _ (by omega) (by omega);have iL:IntKind.i64.wrap (L+1)=L+1:=yWt _ (by omega) (by omega);have iN:IntKind.i64.wrap (U+1)=U+1:=yWt _ (by omega) (by omega);have iK:IntKind.i64.wrap (F+U)=F+U:=yWt _ (by omega) (by omega);have iO:IntKind.i64.wrap (q+U)=q+U:=yWt _ (by omega) (by omega);go_enter Tryz.func98,Tryz.ntmps98;go_wp2_with fail;obtain ⟨v0,e0⟩:∃ x,x=(w.alloc (.cells #[.slice a ss.length c,.slice a' ws.length c'] 26)).alloc (.cells #[.int .i64 0,.int .i64 0,.int .i64 0,.int .i64 0,.int .i64 0,.int .i64 0,.int .i64 0,.int .i64 0,.int .i64 0,.int .i64 0,.slice none 0 0,.slice none 0 0] 124):=⟨_,rfl⟩;have hE:Below w.heap.size w v0:=by rw [e0];exact ((Below.refl _ _).alloc (Nat.le_refl _) _).alloc (by simp) _
 have eL:w.heap.size+1+1<=v0.heap.size:=by rw [e0];simp
 have bA:Dep v0 w.heap.size (w.heap.size+1) (fun W'=>Row W' w.heap.size [.slice a ss.length c,.slice a' ws.length c']):=by rw [e0];exact (zle w _ _).below ((Below.refl _ _).alloc (Nat.le_refl _) _)
 have bD:Dep v0 (w.heap.size+1) (w.heap.size+1+1) (fun W'=>Row W' (w.heap.size+1) [.int .i64 0,.int .i64 0,.int .i64 0,.int .i64 0,.int .i64 0,.int .i64 0,.int .i64 0,.int .i64 0,.int .i64 0,.int .i64 0,.slice none 0 0,.slice none 0 0]):=by rw [e0];exact xuV (j6Q (w:=w.alloc _) (by simp)) (Nat.le_refl _) (by omega) (by simp)
 rw [<-e0];clear e0;refine (HV.out _ (h.below hE) (h'.below hE)).mono ?_;rintro e v1 ⟨rfl,hb⟩;have eM:v0.heap.size<=v1.heap.size:=hb.size;replace bA:=bA.below hb;replace bD:=bD.below hb;replace hE:=hE.trans (hb.mono hE.size);clear hb;have b8:=bA.now.cell 0 _ rfl;have cC:=bA.now.cell 1 _ rfl;have cE:=bA.now.lt
 go_wp2_with (first | (go_at_call 15;refine (X3C _ _).mono ?_;rw [hd];rintro e wz ⟨rfl,cY⟩;rw [cY];clear cY wz) | (go_at_call 36;refine (HH.out _).mono ?_;rintro e wz ⟨rfl,cY⟩;rw [cY];clear cY wz))
 clear b8 cC cE;refine (eU.out _ (h.below hE) (h'.below hE)).mono ?_;rintro e v2 ⟨rfl,hb⟩;have gY:v1.heap.size<=v2.heap.size:=hb.size;replace bA:=bA.below hb;replace bD:=bD.below hb;replace hE:=hE.trans (hb.mono hE.size);clear hb;have b8:=bA.now.cell 0 _ rfl;have cC:=bA.now.cell 1 _ rfl;have cE:=bA.now.lt;go_upto_region 6 with fail;clear b8 cC cE;generalize eF:v2.alloc _=v3;obtain ⟨hb,fQ,bR⟩:=bx1 eF;have gZ:v2.heap.size+1<=v3.heap.size:=by omega
 clear eF fQ;replace bA:=bA.below hb;replace bD:=bD.below hb;replace hE:=hE.trans (hb.mono hE.size);clear hb;go_cut [8] from 30 to 41 (fun v7 wx=>∃ (BX:Nat) (ax:Option Addr) (cx:Nat),v7=.pointer (some ⟨BX,0,none⟩)/\Row wx BX [.slice ax es.length cx,.int .i64 U,.int .i64 L]/\v3.heap.size<=BX/\OwnS wx ax (es.map Value.string)/\(∀ g,blk ax es.length=some g->v3.heap.size<=g)/\Below v3.heap.size v3 wx)
 case first =>
  have HK:Hid (∀ W,Below v3.heap.size v3 W->W.cell? ⟨w.heap.size,0,none⟩=some (.slice a ss.length c)/\W.cell? ⟨w.heap.size,1,none⟩=some (.slice a' ws.length c')/\W.cell? ⟨v2.heap.size,1,none⟩=some (.int .i64 H)/\W.cell? ⟨v2.heap.size,2,none⟩=some (.int .i64 F)/\W.cell? ⟨v2.heap.size,3,none⟩=some (.int .i64 R)):=fun W hb=>⟨(bA.below hb).now.cell 0 _ rfl,(bA.below hb).now.cell 1 _ rfl,(bR.below hb).now.cell 1 _ rfl,(bR.below hb).now.cell 2 _ rfl,(bR.below hb).now.cell 3 _ rfl⟩
  refine wp_region_held_drew (S:=fun w'=>w'.cell? ⟨w.heap.size,0,none⟩=some (.slice a ss.length c)/\w'.cell? ⟨w.heap.size,1,none⟩=some (.slice a' ws.length c')/\w'.cell? ⟨v2.heap.size,1,none⟩=some (.int .i64 H)/\w'.cell? ⟨v2.heap.size,2,none⟩=some (.int .i64 F)/\w'.cell? ⟨v2.heap.size,3,none⟩=some (.int .i64 R)) (by kernel_rfl) (HK.out _ (Below.refl _ _).drew) (fun b7=>?_);refine TY 0 (.agg #[.slice a ss.length c,.slice a' ws.length c']) rfl b7 (TY 1 (.int .i64 (ss.length:Int)) rfl b7 (TY 2 (.pointer (some ⟨v2.heap.size,1,none⟩)) rfl b7 (TY 3 (.int .i64 H) rfl b7 (TY 5 (.int .i64 Q) rfl b7 (TY 6 (.pointer (some ⟨v2.heap.size,2,none⟩)) rfl b7 (TY 7 (.int .i64 F) rfl b7 (TY 8 (.pointer (some ⟨v2.heap.size,3,none⟩)) rfl b7 (TY 9 (.int .i64 R) rfl b7 (TY 10 (.int .i64 n) rfl b7 ?_)))))))));simp only [PS];refine wpAnyH_ready (rs:=[4,12]) (by kernel_rfl) (by simp) ?_;refine AllReadyH.cons rfl (fun Kq aU=>?_) (AllReadyH.cons rfl (fun Kq aU=>?_) AllReadyH.nil)
  ·refine XRf (by rfl) 96 #[.int .i64 (ss.length:Int),.int .i64 H] (by go_simp) (HB.out _) ?_
   rintro e wz ⟨rfl,rfl⟩;refine ⟨_,rfl,?_⟩;refine aU.out _ _ b7 (fun _=>?_)
   try simp only [PS]
   refine wpAnyH_ready (rs:=[11,12]) (by kernel_rfl) (by simp) ?_;refine AllReadyH.cons rfl (fun Kq aU=>?_) (AllReadyH.cons rfl (fun Kq aU=>?_) AllReadyH.nil)
   ·refine XRf (by rfl) _ _ (by go_simp) (dH.out _ ((h.below hE).below ((Below.refl _ _).drew)) ((h'.below hE).below ((Below.refl _ _).drew))) ?_
    rintro e u1 ⟨ax,cx,rfl,cW,cU,cF⟩;refine ⟨_,rfl,?_⟩;have aN:Below v3.heap.size v3 u1:=(Below.refl _ _).drew.trans cF;refine aU.out _ _ (HK.out _ aN) (fun eW=>?_)
    try simp only [PS]
    refine RD 12 rfl (fun Kq aU=>?_);go_simp;refine aU.out _ _ (HK.out _ (aN.alloc aN.size _)) (fun eI=>?_)
    try simp only [PS]
    refine RD 13 rfl (fun Kq aU=>?_);go_simp;refine aU.out _ _ (HK.out _ (aN.alloc aN.size _)) (fun eX=>?_)
    try simp only [PS]
    refine DN ?_;go_wp2_with fail;go_meet;exact ⟨u1.heap.size,ax,cx,rfl,xER _ _ _,aN.size,cW.below ((Below.refl _ _).alloc (Nat.le_refl _) _),cU,aN.alloc aN.size _⟩
   ·go_simp
    have cM:Below v3.heap.size v3 (v3.alloc (.cells #[.slice none 0 0,.int .i64 0,.int .i64 0] 169)).drew:=((Below.refl _ _).alloc (Nat.le_refl _) _).drew;refine aU.out _ _ (HK.out _ cM) (fun gP=>?_)
    try simp only [PS]
    refine RD 11 rfl (fun Kq aU=>?_);refine XRf (by rfl) _ _ (by go_simp) (dH.out _ ((h.below hE).below cM) ((h'.below hE).below cM)) ?_;rintro e u1 ⟨ax,cx,rfl,cW,cU,cF⟩;refine ⟨_,rfl,?_⟩;have aN:Below v3.heap.size v3 u1:=cM.trans (cF.mono cM.size);have rz:=(xER v3 #[.slice none 0 0,.int .i64 0,.int .i64 0] 169).drew.below cF;obtain ⟨z0,z1,z2⟩:=rz.k3;obtain ⟨y0,y1,y2⟩:=rz.z3;have zl:=rz.lt
    have eK:∀ g,blk ax es.length=some g->v3.heap.size<g:=fun g hg=>by have:=cU g hg;simp at this;omega
    refine aU.out _ _ (HK.out _ aN) (fun gQ=>?_)
    try simp only [PS]
    refine RD 13 rfl (fun Kq aU=>?_);go_simp;have cN:Below v3.heap.size v3 (((u1.setCell ⟨v3.heap.size,0,none⟩ (.slice ax es.length cx)).setCell ⟨v3.heap.size,1,none⟩ (.int .i64 U)).setCell ⟨v3.heap.size,2,none⟩ (.int .i64 L)):=((aN.setCell (Nat.le_refl _) _).setCell (Nat.le_refl _) _).setCell (Nat.le_refl _) _;refine aU.out _ _ (HK.out _ cN) (fun gR=>?_)
    try simp only [PS]
    refine DN ?_;go_wp2_with fail;go_meet;refine ⟨v3.heap.size,ax,cx,rfl,((rz.set 0 (by simp) _).set 1 (by simp) _).set 2 (by simp) _,Nat.le_refl _,?_,fun g hg=>Nat.le_of_lt (eK g hg),cN⟩
    iterate 3 (refine OwnS.setF ?_ _ (fun g hg hn=>by have:=eK g (by subst hg;exact qdd _ _ _ (vBS hn));show v3.heap.size≠g;omega) _)
    exact cW
  ·go_simp
   have cM:Below v3.heap.size v3 (v3.alloc (.cells #[.slice none 0 0,.int .i64 0,.int .i64 0] 169)).drew:=((Below.refl _ _).alloc (Nat.le_refl _) _).drew;refine aU.out _ _ (HK.out _ cM) (fun eY=>?_)
   try simp only [PS]
   refine RD 4 rfl (fun Kq aU=>?_);refine XRf (by rfl) 96 #[.int .i64 (ss.length:Int),.int .i64 H] (by go_simp) (HB.out _) ?_;rintro e wz ⟨rfl,rfl⟩;refine ⟨_,rfl,?_⟩;refine aU.out _ _ eY (fun _=>?_)
   try simp only [PS]
   refine RD 11 rfl (fun Kq aU=>?_);refine XRf (by rfl) _ _ (by go_simp) (dH.out _ ((h.below hE).below cM) ((h'.below hE).below cM)) ?_;rintro e u1 ⟨ax,cx,rfl,cW,cU,cF⟩;refine ⟨_,rfl,?_⟩;have aN:Below v3.heap.size v3 u1:=cM.trans (cF.mono cM.size);have rz:=(xER v3 #[.slice none 0 0,.int .i64 0,.int .i64 0] 169).drew.below cF;obtain ⟨z0,z1,z2⟩:=rz.k3;obtain ⟨y0,y1,y2⟩:=rz.z3;have zl:=rz.lt
   have eK:∀ g,blk ax es.length=some g->v3.heap.size<g:=fun g hg=>by have:=cU g hg;simp at this;omega
   refine aU.out _ _ (HK.out _ aN) (fun fZ=>?_)
   try simp only [PS]
   refine RD 13 rfl (fun Kq aU=>?_);go_simp;have cN:Below v3.heap.size v3 (((u1.setCell ⟨v3.heap.size,0,none⟩ (.slice ax es.length cx)).setCell ⟨v3.heap.size,1,none⟩ (.int .i64 U)).setCell ⟨v3.heap.size,2,none⟩ (.int .i64 L)):=((aN.setCell (Nat.le_refl _) _).setCell (Nat.le_refl _) _).setCell (Nat.le_refl _) _;refine aU.out _ _ (HK.out _ cN) (fun gD=>?_)
   try simp only [PS]
   refine DN ?_;go_wp2_with fail;go_meet;refine ⟨v3.heap.size,ax,cx,rfl,((rz.set 0 (by simp) _).set 1 (by simp) _).set 2 (by simp) _,Nat.le_refl _,?_,fun g hg=>Nat.le_of_lt (eK g hg),cN⟩
   iterate 3 (refine OwnS.setF ?_ _ (fun g hg hn=>by have:=eK g (by subst hg;exact qdd _ _ _ (vBS hn));show v3.heap.size≠g;omega) _)
   exact cW
 case rest =>
 obtain ⟨BX,ax,cx,rfl,fC,gO,cW,cU,hb⟩:=hcut;have dX:Dep wc v3.heap.size wc.heap.size (fun W=>OwnS W ax (es.map Value.string)):=JKD cW vBS cU;have bX:Dep wc v3.heap.size wc.heap.size (fun W=>Row W BX [.slice ax es.length cx,.int .i64 U,.int .i64 L]):=xuV fC gO fC.lt (Nat.le_refl _);clear cU cW fC;have iA:v3.heap.size<=wc.heap.size:=hb.size;replace bA:=bA.below hb;replace bD:=bD.below hb;replace bR:=bR.below hb;replace hE:=hE.trans (hb.mono hE.size);clear hb;obtain ⟨aO,aP,aQ⟩:=bX.now.k3;have aR:=bX.now.lt;go_wp2_with fail;clear aO aP aQ aR;have dZ:=hid (eT.out _ cx _ dX.now.strs)
 cases hf:qAf es [] with
 | none =>
  rw [hf] at dZ;simp only [Option.getD_none,Option.isSome_none,List.length_nil] at dZ;have gL:=hid (eR.out hf);clear hf eR eS eN eO eC eP;refine (dZ.out).mono ?_;rintro e v4 ⟨a6,c6,rfl,_,_,_,hb⟩;have fI:wc.heap.size<=v4.heap.size:=hb.size;replace bA:=bA.below hb;replace bD:=bD.below hb;replace bR:=bR.below hb;replace dX:=dX.below hb;replace bX:=bX.below hb;replace hE:=hE.trans (hb.mono hE.size);clear hb;obtain ⟨aC,aD,aE,aF,aG,aH,aI,aJ,aK,aL,aA,aB⟩:=bD.now.k12;obtain ⟨aV,aW,aX,aY,aZ,bC,bG,bH,bI,bJ,aS,aT⟩:=bD.now.z12;have aM:=bD.now.lt;go_wp2_with fail;rw [show D=noD 2 from gL.out];refine bodyPost_ret (v:=dnV (noD 2) none 0 none 0) (by simp [results,Tryz.results98,go_sem,dnV,noD,aM,aC,aD,aE,aF,aG,aH,aI,aJ,aK,aL,aA,aB]) rfl (qJx rfl ?_);refine (fun eJ=>Below.alloc eJ (Below.size eJ) _) ?_
  iterate 12 (refine Below.setCell ?_ (by show w.heap.size<=w.heap.size+1;omega) _)
  exact hE
 | some rs =>
  rw [hf] at dZ;simp only [Option.getD_some,Option.isSome_some] at dZ;have cV:=kVn es [] vv3 rs hf;have fF:=ytq cV;have fX:=hid fF.2;have iI:=fF.1;have cZ:=hid (eS.out rs hf);have cO:=hid (eN.out rs hf);have cP:=hid (eO.out rs hf);have cQ:=hid (eC.out rs hf);have cS:=hid (eP.out rs);have fW:=hid (fun ay cy wx k1=>JBO ay rs cy n wx k1 (by omega) fX.out);have gX:=z3n (ZZG rs) n;have iJ:=xwW rs;obtain ⟨r,gN⟩:∃ r,Hid (r=xee (ZZG rs) n):=⟨_,hid rfl⟩;rw [<-gN.out] at fW gX cO cP cQ cS;clear hf cV fF eR eS eN eO eC eP eT;refine (dZ.out).mono ?_;rintro e v4 ⟨a6,c6,rfl,gU,fB,eZ,hb⟩;have fI:wc.heap.size<=v4.heap.size:=hb.size;replace bA:=bA.below hb;replace bD:=bD.below hb;replace bR:=bR.below hb;replace dX:=dX.below hb;replace bX:=bX.below hb;replace hE:=hE.trans (hb.mono hE.size);have dT:Dep v4 wc.heap.size v4.heap.size (fun W=>OwnS W a6 (qJS rs)):=JKD fB yKA eZ
  have fH:∀ g,blk a6 rs.length=some g->wc.heap.size<=g/\g<v4.heap.size:=fun g hh=>⟨eZ g hh,fB.lt _ QqR g hh⟩
  clear fB eZ;clear hb
  by_cases h4:60000<L+1
  case pos =>
   obtain ⟨aO,aP,aQ⟩:=bX.now.k3;have aR:=bX.now.lt;obtain ⟨aC,aD,aE,aF,aG,aH,aI,aJ,aK,aL,aA,aB⟩:=bD.now.k12;obtain ⟨aV,aW,aX,aY,aZ,bC,bG,bH,bI,bJ,aS,aT⟩:=bD.now.z12;have aM:=bD.now.lt;go_wp2_with fail;rw [show D=noD 3 from cZ.out (by omega)];refine bodyPost_ret (v:=dnV (noD 3) none 0 none 0) (by simp [results,Tryz.results98,go_sem,dnV,noD,aM,aC,aD,aE,aF,aG,aH,aI,aJ,aK,aL,aA,aB]) rfl (qJx rfl ?_);refine (fun eJ=>Below.alloc eJ (Below.size eJ) _) ?_
   iterate 12 (refine Below.setCell ?_ (by show w.heap.size<=w.heap.size+1;omega) _)
   exact hE
  have iB:L+1<=60000:=by omega
  obtain ⟨aO,aP,aQ⟩:=bX.now.k3;have aR:=bX.now.lt;go_wp2_with fail;clear aO aP aQ aR;generalize eG:v4.alloc _=v5;obtain ⟨hb,fS,bT⟩:=bx1 eG;have g6:v4.heap.size+1<=v5.heap.size:=by omega
  clear eG fS;replace bA:=bA.below hb;replace bD:=bD.below hb;replace bR:=bR.below hb;replace dX:=dX.below hb;replace bX:=bX.below hb;replace dT:=dT.below hb;replace hE:=hE.trans (hb.mono hE.size);clear hb;refine (fW.out _ _ _ dT.now.prs).mono ?_;rintro e v6 ⟨rfl,hb⟩;have hI:v5.heap.size<=v6.heap.size:=hb.size;replace bA:=bA.below hb;replace bD:=bD.below hb;replace bR:=bR.below hb;replace dX:=dX.below hb;replace bX:=bX.below hb;replace dT:=dT.below hb;replace bT:=bT.below hb;replace hE:=hE.trans (hb.mono hE.size);clear hb
  by_cases h5:Q-1<r
  case pos =>
   obtain ⟨aC,aD,aE,aF,aG,aH,aI,aJ,aK,aL,aA,aB⟩:=bD.now.k12;obtain ⟨aV,aW,aX,aY,aZ,bC,bG,bH,bI,bJ,aS,aT⟩:=bD.now.z12;have aM:=bD.now.lt;go_wp2_with fail;rw [show D=noD 4 from cO.out (by omega) (by omega)];refine bodyPost_ret (v:=dnV (noD 4) none 0 none 0) (by simp [results,Tryz.results98,go_sem,dnV,noD,aM,aC,aD,aE,aF,aG,aH,aI,aJ,aK,aL,aA,aB]) rfl (qJx rfl ?_)
   iterate 12 (refine Below.setCell ?_ (by show w.heap.size<=w.heap.size+1;omega) _)
   exact hE
  have iC:r<=Q-1:=by omega
  by_cases h6:Q<=U
  case pos =>
   have eD:=hid (fun ay cy wx k1=>yPV n ss.length (L+1) T H F R U 0 ay rs cy wx k1 (by omega) fX.out (cS.out (by omega) (by omega)));rw [<-cP.out (by omega) (by omega) (by omega)] at eD;obtain ⟨C0,W0,S0,L0,T0,H0,F0,R0,U0,O0,ds,os⟩:=D;unfold QPD at eD;unfold vx0 dnV at eD;simp only at eD;clear cZ cO cP cQ cS;obtain ⟨aO,aP,aQ⟩:=bX.now.k3;have aR:=bX.now.lt;obtain ⟨bU,bV,bW,bY⟩:=bR.now.k4;have bZ:=bR.now.lt;have cH:=bT.now.cell 0 _ rfl;have cI:=bT.now.lt;go_wp2_with fail;clear aO aP aQ aR bU bV bW bY bZ cH cI;generalize cL:v6.alloc _=v7;obtain ⟨hb,dY,bS⟩:=bx1 cL;have fJ:v6.heap.size+1<=v7.heap.size:=by omega
   clear cL dY;replace bA:=bA.below hb;replace bD:=bD.below hb;replace bR:=bR.below hb;replace dX:=dX.below hb;replace bX:=bX.below hb;replace dT:=dT.below hb;replace bT:=bT.below hb;replace hE:=hE.trans (hb.mono hE.size);clear hb;refine (eD.out _ _ _ dT.now.prs).mono ?_;rintro e v8 ⟨az,cz,bz,ez,rfl,gV,gI,gJ,gK,hb⟩;have fO:v7.heap.size<=v8.heap.size:=hb.size;replace bA:=bA.below hb;replace bD:=bD.below hb;replace bR:=bR.below hb;replace dX:=dX.below hb;replace bX:=bX.below hb;replace dT:=dT.below hb;replace bT:=bT.below hb;replace bS:=bS.below hb;replace hE:=hE.trans (hb.mono hE.size);have eV:=hid gI;have iP:v7.heap.size<=v8.heap.size:=hb.size;clear gI;clear hb;obtain ⟨aC,aD,aE,aF,aG,aH,aI,aJ,aK,aL,aA,aB⟩:=bD.now.k12;obtain ⟨aV,aW,aX,aY,aZ,bC,bG,bH,bI,bJ,aS,aT⟩:=bD.now.z12;have aM:=bD.now.lt;go_wp2_with fail
   have gG:∀ g,az=some ⟨g,0,none⟩->qJS ds≠[]->w.heap.size+1≠g:=fun g hg cK=>by have:=gJ g (by subst hg;exact qdd _ _ _ (Xnn cK));omega
   have gH:∀ g,bz=some ⟨g,0,none⟩->JFP os≠[]->w.heap.size+1≠g:=fun g hg cK=>by have:=gK g (by subst hg;exact qdd _ _ _ (JFT cK));omega
   refine bodyPost_ret (v:=dnV ⟨C0,W0,S0,L0,T0,H0,F0,R0,U0,O0,ds,os⟩ az cz bz ez) (by simp [results,Tryz.results98,go_sem,dnV,aC,aD,aE,aF,aG,aH,aI,aJ,aK,aL,aA,aB]) rfl ⟨az,cz,bz,ez,rfl,gV,⟨?_,?_,eV.out.ne⟩,?_,?_,?_⟩
   ·iterate 12 (refine OwnS.set' ?_ _ (fun g hg cK=>gG g hg cK) _)
    exact eV.out.s
   ·iterate 12 (refine OwnS.set' ?_ _ (fun g hg cK=>gH g hg cK) _)
    exact eV.out.p
   ·exact fun g hg=>by have:=gJ g hg;omega
   ·exact fun g hg=>by have:=gK g hg;omega
   ·iterate 12 (refine Below.setCell ?_ (by show w.heap.size<=w.heap.size+1;omega) _)
    exact hE
  have iD:U<Q:=by omega
  have fU:=hid (fun wx=>x4N 3 (L+1) (F+U) ByteArray.empty n wx (by decide));have fT:=hid (cQ.out (by omega) (by omega) (by omega));obtain ⟨FM,fY⟩:∃ FM,FM=ZQp 3 (L+1) (F+U) ByteArray.empty n:=⟨_,rfl⟩;rw [<-fY] at fU fT;clear fY cZ cO cP cQ cS;obtain ⟨aO,aP,aQ⟩:=bX.now.k3;have aR:=bX.now.lt;obtain ⟨bU,bV,bW,bY⟩:=bR.now.k4;have bZ:=bR.now.lt;have cH:=bT.now.cell 0 _ rfl;have cI:=bT.now.lt;go_wp2_with fail;clear aO aP aQ aR bU bV bW bY bZ cH cI;generalize cL:v6.alloc _=v7;obtain ⟨hb,dY,bS⟩:=bx1 cL;have fJ:v6.heap.size+1<=v7.heap.size:=by omega
  clear cL dY;replace bA:=bA.below hb;replace bD:=bD.below hb;replace bR:=bR.below hb;replace dX:=dX.below hb;replace bX:=bX.below hb;replace dT:=dT.below hb;replace bT:=bT.below hb;replace hE:=hE.trans (hb.mono hE.size);clear hb;refine (fU.out _).mono ?_;rintro e v8 ⟨rfl,hb⟩;have fO:v7.heap.size<=v8.heap.size:=hb.size;replace bA:=bA.below hb;replace bD:=bD.below hb;replace bR:=bR.below hb;replace dX:=dX.below hb;replace bX:=bX.below hb;replace dT:=dT.below hb;replace bT:=bT.below hb;replace bS:=bS.below hb;replace hE:=hE.trans (hb.mono hE.size);clear hb;obtain ⟨dI,dJ,dK,dL,dM,dN,dO,dQ,dR,dU,dV⟩:=c10 bS.now;obtain ⟨bU,bV,bW,bY⟩:=bR.now.k4;have bZ:=bR.now.lt;obtain ⟨aO,aP,aQ⟩:=bX.now.k3;have aR:=bX.now.lt;go_wp2_with fail;clear dI dJ dK dL dM dN dO dQ dR dU dV bU bV bW bY bZ aO aP aQ aR
  have HK:Hid (∀ W,Below v8.heap.size v8 W->W.cell? ⟨v6.heap.size,0,none⟩=some (.int .i64 n)/\W.cell? ⟨v6.heap.size,1,none⟩=some (.int .i64 (ss.length:Int))/\W.cell? ⟨v6.heap.size,2,none⟩=some (.int .i64 (L+1))/\W.cell? ⟨v6.heap.size,3,none⟩=some (.int .i64 T)/\W.cell? ⟨v6.heap.size,4,none⟩=some (.int .i64 H)/\W.cell? ⟨v6.heap.size,5,none⟩=some (.int .i64 F)/\W.cell? ⟨v6.heap.size,6,none⟩=some (.int .i64 R)/\W.cell? ⟨v6.heap.size,7,none⟩=some (.int .i64 (U+1))/\W.cell? ⟨v6.heap.size,8,none⟩=some (.int .i64 0)/\W.cell? ⟨v6.heap.size,9,none⟩=some (.slice a6 rs.length c6)/\W.cell? ⟨v2.heap.size,1,none⟩=some (.int .i64 H)/\W.cell? ⟨BX,1,none⟩=some (.int .i64 U)):=fun W hb=>⟨(bS.below hb).now.cell 0 _ rfl,(bS.below hb).now.cell 1 _ rfl,(bS.below hb).now.cell 2 _ rfl,(bS.below hb).now.cell 3 _ rfl,(bS.below hb).now.cell 4 _ rfl,(bS.below hb).now.cell 5 _ rfl,(bS.below hb).now.cell 6 _ rfl,(bS.below hb).now.cell 7 _ rfl,(bS.below hb).now.cell 8 _ rfl,(bS.below hb).now.cell 9 _ rfl,(bR.below hb).now.cell 1 _ rfl,(bX.below hb).now.cell 1 _ rfl⟩
  refine wp_region_held_drew (S:=fun w'=>w'.cell? ⟨v6.heap.size,0,none⟩=some (.int .i64 n)/\w'.cell? ⟨v6.heap.size,1,none⟩=some (.int .i64 (ss.length:Int))/\w'.cell? ⟨v6.heap.size,2,none⟩=some (.int .i64 (L+1))/\w'.cell? ⟨v6.heap.size,3,none⟩=some (.int .i64 T)/\w'.cell? ⟨v6.heap.size,4,none⟩=some (.int .i64 H)/\w'.cell? ⟨v6.heap.size,5,none⟩=some (.int .i64 F)/\w'.cell? ⟨v6.heap.size,6,none⟩=some (.int .i64 R)/\w'.cell? ⟨v6.heap.size,7,none⟩=some (.int .i64 (U+1))/\w'.cell? ⟨v6.heap.size,8,none⟩=some (.int .i64 0)/\w'.cell? ⟨v6.heap.size,9,none⟩=some (.slice a6 rs.length c6)/\w'.cell? ⟨v2.heap.size,1,none⟩=some (.int .i64 H)/\w'.cell? ⟨BX,1,none⟩=some (.int .i64 U)) (by kernel_rfl) (HK.out _ (Below.refl _ _).drew) (fun b7=>?_);refine TY 0 (.agg #[.int .i64 n,.int .i64 (ss.length:Int),.int .i64 (L+1),.int .i64 T,.int .i64 H,.int .i64 F,.int .i64 R,.int .i64 (U+1),.int .i64 0,.slice a6 rs.length c6]) rfl b7 (TY 1 (.int .i64 (ss.length:Int)) rfl b7 (TY 2 (.pointer (some ⟨v2.heap.size,1,none⟩)) rfl b7 (TY 3 (.int .i64 H) rfl b7 (TY 5 (.pointer (some ⟨BX,1,none⟩)) rfl b7 (TY 6 (.int .i64 U) rfl b7 (TY 8 (.string FM) rfl b7 (TY 10 (.agg #[.bool true,.int .i64 0,.string ⟨#[]⟩]) rfl b7 ?_)))))))
  simp only [PS];refine RD 4 rfl (fun Kq aU=>?_);refine XRf (by rfl) 96 #[.int .i64 (ss.length:Int),.int .i64 H] (by go_simp) (HB.out _) ?_;rintro e wz ⟨rfl,rfl⟩;refine ⟨_,rfl,?_⟩;refine aU.out _ _ b7 (fun _=>?_)
  try simp only [PS]
  refine TY 7 (.int .i64 (q+U)) rfl b7 ?_;simp only [PS];refine RD 9 rfl (fun Kq aU=>?_);refine XRf (by rfl) 95 #[.int .i64 (q+U),.string FM] (by go_simp) (qcD _ _ _) ?_;rintro e w4 ⟨rfl,gS⟩;refine ⟨_,rfl,?_⟩;have cT:Below v8.heap.size v8 w4:=(Below.refl _ _).drew.trans gS;refine aU.out _ _ (HK.out _ cT) (fun eW=>?_)
  try simp only [PS]
  refine RD 11 rfl (fun Kq aU=>?_);go_simp;have eQ:Below v8.heap.size v8 (w4.alloc (.cells #[.bool false,.int .i64 (q+U),.string FM,.bool true,.int .i64 0,.string ⟨#[]⟩] 127)):=cT.alloc cT.size _;have rD:=(bD.below eQ).now;obtain ⟨aC,aD,aE,aF,aG,aH,aI,aJ,aK,aL,aA,aB⟩:=rD.k12;obtain ⟨aV,aW,aX,aY,aZ,bC,bG,bH,bI,bJ,aS,aT⟩:=rD.z12;have aM:=rD.lt;have s4:=cT.size;refine aU.out _ _ (HK.out _ eQ) (fun eI=>?_)
  try simp only [PS]
  refine TY 12 (.agg #[.int .i64 0,.int .i64 n,.int .i64 (ss.length:Int),.int .i64 (L+1),.int .i64 T,.int .i64 H,.int .i64 F,.int .i64 R,.int .i64 (U+1),.int .i64 0,.slice a6 rs.length c6,.slice (some ⟨w4.heap.size,0,none⟩) 2 2]) rfl eI ?_;simp only [PS];refine RD 13 rfl (fun Kq aU=>?_);go_simp;have iE:True:=trivial;refine aU.out _ _ (⟨by go_simp,by go_simp,by go_simp,by go_simp,by go_simp,by go_simp,by go_simp,by go_simp,by go_simp,by go_simp,by go_simp,by go_simp⟩) (fun eX=>?_)
  try simp only [PS]
  refine DN ?_;go_wp2;rw [fT.out]
  have gW:∀ g,a6=some ⟨g,0,none⟩->qJS rs≠[]->w.heap.size+1≠g:=fun g hg cK=>by have:=fH g (by subst hg;exact qdd _ _ _ (Xnn cK));omega
  refine bodyPost_ret (v:=dnV ⟨0,n,ss.length,L+1,T,H,F,R,U+1,0,rs,[(false,q+U,FM),(true,0,ByteArray.empty)]⟩ a6 c6 (some ⟨w4.heap.size,0,none⟩) 2) (by simp [results,Tryz.results98,go_sem,dnV,aM,aC,aD,aE,aF,aG,aH,aI,aJ,aK,aL,aA,aB]) rfl ⟨a6,c6,_,2,rfl,gU,⟨?_,?_,?_⟩,?_,?_,?_⟩
  ·iterate 12 (refine OwnS.set' ?_ _ (fun g hg cK=>gW g hg cK) _)
   exact (dT.below eQ).now
  ·iterate 12 (refine OwnS.set' ?_ _ (fun g hg cK=>by cases hg;show w.heap.size+1≠w4.heap.size;omega) _)
   exact .inr ⟨w4.heap.size,rfl,xER _ _ _⟩
  ·cases hb1:blk a6 rs.length with
   | none=>exact .inl hb1
   | some g =>
    have k1:=fH g hb1;refine .inr (.inr fun e=>?_);rw [show blk a6 _=some g from hb1,qdd _ _ _ (by simp)] at e
    cases e
    omega
  ·exact fun g hg=>by have:=fH g hg;omega
  ·exact fun g hg=>by have:=k8j hg;have:=hE.size;omega
  ·iterate 12 (refine Below.setCell ?_ (by show w.heap.size<=w.heap.size+1;omega) _)
   exact hE.trans (eQ.mono hE.size)
end Go.Proofs.YtehbpeinnepdcaaGreatDoor
