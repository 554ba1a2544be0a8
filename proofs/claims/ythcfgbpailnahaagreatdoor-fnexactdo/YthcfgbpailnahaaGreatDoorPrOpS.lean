import Derived.Test.YthcfgbpailnahaaGreatDoorPrMvS
import Derived.Test.YthcfgbpailnahaaGreatDoorPrScS
set_option maxHeartbeats 16000000
namespace Go.Proofs.YthcfgbpailnahaaGreatDoor
open _root_.ByteArray(empty)
open Tryz
open Go.RowKit
set_option linter.all false
set_option maxRecDepth 8000
theorem VI(x:Int)(h0:-9223372036854775808<=x)(h1:x<=9223372036854775807):IntKind.i64.wrap x=x:=by
 simp[IntKind.wrap,IntKind.bits,IntKind.signed];omega
theorem Gc{l:List Pr}(h:LI l≠[]):l.length≠0:=λe=>h (by rw[AC e];rfl)
theorem YA{l:List ByteArray}(h:l.map Value.string≠[]):l.length≠0:=λe=>h (by rw[AC e];rfl)
def xD(v wx:World)(es:List ByteArray)(U L:Int)(v7:Value):Prop:=∃(BX:Nat) (ax:Option Addr) (cx:Nat),v7=.pointer (some ⟨BX,0,none⟩)/\Row wx BX [.slice ax es.length cx,.int .i64 U,.int .i64 L]/\v.heap.size<=BX/\OwnS wx ax (es.map Value.string)/\(∀g,blk ax es.length=some g->v.heap.size<=g)/\Below v.heap.size v wx
theorem Bb(a:Option Addr)(ss:List ByteArray)(c:Nat)(a':Option Addr)(ws:List (Int×ByteArray))(c':Nat)(n:Int)(w:World)(h:Strs w a ss)(h':Wrs w a' ws)(hl:ss.length<=1048576)(cQ:ws.length<=1048576)(hs:∀s∈ss,s.size<=1048576)(cT:∀x∈ws,x.2.size<=1048576):Calls prog 107 #[LN a ss.length c a' ws.length c',.int .i64 n] w λx w'=>RO w w' x (PC ss ws n):=by
 have HV:=LE (λ(wx:World) k1 k2=>UT a ss c a' ws c' wx k1 k2 hl cQ hs cT);obtain⟨D,HD⟩:∃D,Hid (D=PC ss ws n):=⟨_,LE rfl⟩;rw[<-HD.o];unfold LN;go_enter func107,ntmps107;go_upto_region 1 with fail;generalize bE:w.alloc _=v1;obtain⟨cM,bU,b1⟩:=LJ bE;clear bE;generalize bF:v1.alloc _=v2;obtain⟨cN,cW,b2⟩:=LJ bF;clear bF;rw[bU]at b2;have B0:StB w v2 [.slice a ss.length c,.slice a' ws.length c'] (λ_=>True):=⟨cM.j (cN.i cM.size),(b1.I cN).l,b2.l,SX (λ_=>trivial)⟩;have l2:w.heap.size+1<v2.heap.size:=b2.l.lt;clear cM cN b1 b2 bU cW;have c0:=B0.r1.x 0;have c1:=B0.r1.x 1;have cl:=B0.r1.lt;unfold LN at HV;go_wp2_with fail;clear c0 c1 cl;refine(HV.o _ (h.I B0.e) (h'.I B0.e)).i ?_;rintro x v3 ⟨rfl,hb⟩;replace B0:=B0.I hb;clear hb l2 HV
 cases hok:LS ss ws with
 | false =>
  obtain rfl:D=LT 1:=HD.o.j (bh (λk=>by rw[hok]at k;exact absurd k.1 (by simp)));go_upto_region 2 with fail;refine B0.noR 1 _ _ rfl (by go_simp) rfl rfl rfl rfl (λy R8 aD=>?_)
  try simp only[PS]
  clear B0
  try go_wp2
  refine RN 4 results107 _ ?_ R8 ?_ aD.o<;>rfl
 | true =>
 by_cases hn:1<=n/\n<=8
 case neg =>
  have hd:=AI hn;obtain rfl:D=LT 1:=HD.o.j (bh (λk=>hn k.2));go_upto_region 2 with (go_at_call 57;refine(PV _ _).i ?_;rw[hd];refine MT ?_);refine B0.noR 1 _ _ rfl (by go_simp) rfl rfl rfl rfl (λy R8 aD=>?_)
  try simp only[PS]
  clear B0
  try go_wp2
  refine RN 4 results107 _ ?_ R8 ?_ aD.o<;>rfl
 have aK:=AG hok hn;have hd:=AO hn;have hg:=dk aK;have cV:=ni aK;obtain⟨⟨eO,eP,eQ⟩,_,_⟩:=OZ aK.1;have hQ:=PH (S:=(ss.length:Int)) (by omega);obtain⟨T,H,F,R,bP⟩:∃T H F R,MS ss ws n=(T,H,F,R):=⟨_,_,_,_,rfl⟩;obtain⟨es,U,L,hX⟩:∃es U L,OM ss ws n=(es,U,L):=⟨_,_,_,rfl⟩;have dU:RM ss ws (2+H*hv ss.length) (hv ss.length) F R n=(es,U,L):=by rw[<-hX];unfold OM;rw[bP]
 rw[bP]at hg;rw[hX]at cV;unfold UL at hg;simp only at hg cV;obtain⟨hT,hH,hF,hR⟩:=hg;obtain⟨hU,hL,eN,dV⟩:=cV;have eE:=LE dV;clear dV;have bV:=LE (λwx k1 k2=>Ao a ss c a' ws c' n wx k1 k2 hl cQ hs cT);rw[bP]at bV;simp only[nt]at bV;have aN:=LE (λwx k1 k2=>(Io a ss c a' ws c' (2+H*hv ss.length) (hv ss.length) F R n wx k1 k2 hl cQ hs cT).i (λe w2 hh=>ym hh));rw[dU]at aN;simp only[nu]at aN;have HH:=LE (λwx=>VA (ss.length:Int) wx);have HB:=LE (λwx=>ka (ss.length:Int) H hH.1 hH.2 wx);have dF:=LE (λax cx wx k1=>Ck ax es cx wx k1 (by omega) (λe he=>by have:=eE.o e he;omega));unfold ja LR at dF;have aF:=LE aK;have aP:=LE bP;have aV:=LE hX;clear aK bP hX dU
 have eB:Hid (NF es []=none->D=LT 2):=λhf=>HD.o.j (oy aF.o aV.o hf)
 have eC:Hid (∀rs,NF es []=some rs->60000<L+1->D=LT 3):=λrs hf h4=>HD.o.j (qj aF.o aV.o hf h4)
 have cZ:Hid (∀rs,NF es []=some rs->¬60000<L+1->hv ss.length-1<MH (MN rs) n->D=LT 4):=λrs hf h4 h5=>HD.o.j (mn aF.o aV.o hf h4 h5)
 have dB:Hid (∀rs,NF es []=some rs->¬60000<L+1->¬hv ss.length-1<MH (MN rs) n->hv ss.length<=U->D=OY n ss.length (L+1) T H F rs):=λrs hf h4 h5 h6=>HD.o.j (jw aF.o aP.o aV.o hf h4 h5 h6)
 have cB:Hid (∀rs,NF es []=some rs->¬60000<L+1->¬hv ss.length-1<MH (MN rs) n->¬hv ss.length<=U->D=⟨0,n,ss.length,L+1,T,H,F,R,U+1,0,rs,[(false,2+H*hv ss.length+U,MP 3 (L+1) (F+U) empty n),(true,0,empty)]⟩):=λrs hf h4 h5 h6=>HD.o.j (kl aF.o aP.o aV.o hf h4 h5 h6)
 have dL:Hid (∀rs,¬60000<L+1->¬hv ss.length-1<MH (MN rs) n->VX n ss.length (L+1) T H F rs):=λrs h4 h5=>⟨aF.o.2,by omega,by omega,hT,hH,hF,by omega⟩
 clear aP aV HD;obtain⟨Q,HQ⟩:∃Q,Hid (Q=hv ss.length):=⟨_,LE rfl⟩;obtain⟨q,hq⟩:∃q,q=2+H*Q:=⟨_,rfl⟩;rw[<-HQ.o]at hQ hU aN HH HB cZ dB cB dL;rw[<-hq]at aN HB cB;have eR:2<=q/\q<=101:=by have:=il hH (q:=Q) (by omega);omega
 clear hq;have eW:IntKind.i64.wrap (Q-1)=Q-1:=VI _ (by omega) (by omega);have eV:IntKind.i64.wrap (L+1)=L+1:=VI _ (by omega) (by omega);have eX:IntKind.i64.wrap (U+1)=U+1:=VI _ (by omega) (by omega);have eU:IntKind.i64.wrap (F+U)=F+U:=VI _ (by omega) (by omega);have eY:IntKind.i64.wrap (q+U)=q+U:=VI _ (by omega) (by omega);have c0:=B0.r1.x 0;have c1:=B0.r1.x 1;have cl:=B0.r1.lt;unfold LN at bV aN
 go_wp2_with (first|(go_at_call 57;refine(PV _ _).i ?_;rw[hd];refine MT ?_)|(go_at_call 103;refine(HH.o _).i ?_;refine MT ?_))
 clear c0 c1 cl;refine(bV.o _ (h.I B0.e) (h'.I B0.e)).i ?_;rintro x v4 ⟨rfl,hb⟩;replace B0:=B0.I hb;clear hb;go_upto_region 6 with fail;generalize bI:v4.alloc _=v5;obtain⟨hb,cX,b3⟩:=LJ bI;clear bI;obtain⟨BR,bC⟩:∃k,k=v4.heap.size:=⟨_,rfl⟩;rw[<-bC]at b3⊢;have rR:=b3.l;replace B0:=B0.I hb;clear hb b3 cX bC;go_cut [8] from 30 to 41 (λv7 wx=>xD v5 wx es U L v7)
 case first =>
  have dD:=(AB v5.heap.size v5).drew;refine UV (13) (S:=λw'=>Row w' w.heap.size [.slice a ss.length c,.slice a' ws.length c']/\Row w' BR [.int .i64 T,.int .i64 H,.int .i64 F,.int .i64 R]) (by kernel_rfl) (⟨B0.r1.I dD,rR.I dD⟩) (λaC=>?_);refine MY 0 (.agg #[.slice a ss.length c,.slice a' ws.length c']) rfl (BN ⟨by rfl,λw hw=>by obtain⟨z0,z1⟩:=hw;have c:=z0.x 0;have d:=z0.x 1;have l:=z0.lt;go_simp⟩) aC (NZ 1 (.int .i64 (ss.length:Int)) rfl aC (MY 2 (.pointer (some ⟨BR,1,none⟩)) rfl (BN ⟨by rfl,λw hw=>by obtain⟨z0,z1⟩:=hw;have l:=z1.lt;go_simp⟩) aC (MY 3 (.int .i64 H) rfl (BN ⟨by rfl,λw hw=>by obtain⟨z0,z1⟩:=hw;have c:=z1.x 1;go_simp⟩) aC (NZ 5 (.int .i64 Q) rfl aC (MY 6 (.pointer (some ⟨BR,2,none⟩)) rfl (BN ⟨by rfl,λw hw=>by obtain⟨z0,z1⟩:=hw;have l:=z1.lt;go_simp⟩) aC (MY 7 (.int .i64 F) rfl (BN ⟨by rfl,λw hw=>by obtain⟨z0,z1⟩:=hw;have c:=z1.x 2;go_simp⟩) aC (MY 8 (.pointer (some ⟨BR,3,none⟩)) rfl (BN ⟨by rfl,λw hw=>by obtain⟨z0,z1⟩:=hw;have l:=z1.lt;go_simp⟩) aC (MY 9 (.int .i64 R) rfl (BN ⟨by rfl,λw hw=>by obtain⟨z0,z1⟩:=hw;have c:=z1.x 3;go_simp⟩) aC (NZ 10 (.int .i64 n) rfl aC ?_)))))))))
  simp only[PS];refine PD (rs:=[4,12]) (by kernel_rfl) (by simp) ?_;refine AllReadyT.cons rfl (λKq aA=>?_) (AllReadyT.cons rfl (λKq aA=>?_) AllReadyT.nil)
  focus
   refine LK (by rfl) 151 #[.int .i64 (ss.length:Int),.int .i64 H] (by go_simp) (HB.o _) ?_;rintro e wz ⟨rfl,aO⟩;refine⟨_,rfl,?_⟩;rw[aO];clear aO wz;refine aA.o _ _ aC (λ_=>?_)
   try simp only[PS]
   refine PD (rs:=[11,12]) (by kernel_rfl) (by simp) ?_;refine AllReadyT.cons rfl (λKq aA=>?_) (AllReadyT.cons rfl (λKq aA=>?_) AllReadyT.nil)
   focus
    obtain⟨yb,aB⟩:∃y,y=v5.drew:=⟨_,rfl⟩;rw[<-aB];have hT:Below v5.heap.size v5 yb:=by rw[aB];exact(AB _ _).drew
    clear aB;have aJ:=B0.e.j (hT.i B0.e.size);refine LK (by rfl) 150 #[.agg #[.slice a ss.length c,.slice a' ws.length c'],.int .i64 q,.int .i64 Q,.int .i64 F,.int .i64 R,.int .i64 n] (by go_simp) (aN.o _ (h.I aJ) (h'.I aJ)) ?_;rintro e aS ⟨ax,cx,rfl,aL,aM,hb⟩;refine⟨_,rfl,?_⟩;have dX:=PG (lo:=yb.heap.size) aL YA aM
    have cP:∀g,blk ax es.length=some g->v5.heap.size<=g:=λg k=>AL hT.size (aM g k)
    replace hT:=hT.j (hb.i hT.size);clear hb aL aJ;refine aA.o _ _ (⟨B0.r1.I hT,rR.I hT⟩) (λcH=>?_)
    try simp only[PS]
    refine ND 12 rfl (λKq aA=>?_);go_simp;generalize aE:World.alloc _ _=bT;obtain⟨hb,aU,bX⟩:=LJ aE;obtain⟨BX,aG⟩:∃k,k=aS.heap.size:=⟨_,rfl⟩;rw[<-aG]at bX⊢;have b7:v5.heap.size<=BX:=by rw[aG];exact hT.size
    have rX:=bX.l;have tX:aS.heap.size<=BX:=by rw[aG];exact AA _
    replace dX:=dX.I hb;replace hT:=hT.j (hb.i hT.size);clear hb bX aU aG aE;refine aA.o _ _ (⟨B0.r1.I hT,rR.I hT⟩) (λaR=>?_)
    try simp only[PS]
    obtain⟨yz,rfl⟩:∃y,y=bT:=⟨_,rfl⟩;have dR:=aR
   rotate_left
   focus
    obtain⟨yb,aB⟩:∃y,y=v5.drew:=⟨_,rfl⟩;rw[<-aB];have hT:Below v5.heap.size v5 yb:=by rw[aB];exact(AB _ _).drew
    clear aB;go_simp;generalize aE:World.alloc _ _=bT;obtain⟨hb,aU,bX⟩:=LJ aE;obtain⟨BX,aG⟩:∃k,k=yb.heap.size:=⟨_,rfl⟩;rw[<-aG]at bX⊢;have b7:v5.heap.size<=BX:=by rw[aG];exact hT.size
    have rX:=bX.l;replace hT:=hT.j (hb.i hT.size);clear hb bX aU aG aE;refine aA.o _ _ (⟨B0.r1.I hT,rR.I hT⟩) (λeG=>?_)
    try simp only[PS]
    refine ND 11 rfl (λKq aA=>?_);have aJ:=B0.e.j (hT.i B0.e.size);refine LK (by rfl) 150 #[.agg #[.slice a ss.length c,.slice a' ws.length c'],.int .i64 q,.int .i64 Q,.int .i64 F,.int .i64 R,.int .i64 n] (by go_simp) (aN.o _ (h.I aJ) (h'.I aJ)) ?_;rintro e aS ⟨ax,cx,rfl,aL,aM,hb⟩;refine⟨_,rfl,?_⟩;have dX:=PG (lo:=bT.heap.size) aL YA aM
    have cP:∀g,blk ax es.length=some g->v5.heap.size<=g:=λg k=>AL hT.size (aM g k)
    have lX:=rX.lt;replace rX:=rX.I hb;replace hT:=hT.j (hb.i hT.size);clear hb aL aJ;refine aA.o _ _ (⟨B0.r1.I hT,rR.I hT⟩) (λcI=>?_)
    try simp only[PS]
    obtain⟨yz,rfl⟩:∃y,y=aS:=⟨_,rfl⟩;have dR:=cI
  rotate_left 2
  focus
   obtain⟨yb,aB⟩:∃y,y=v5.drew:=⟨_,rfl⟩;rw[<-aB];have hT:Below v5.heap.size v5 yb:=by rw[aB];exact(AB _ _).drew
   clear aB;go_simp;generalize aE:World.alloc _ _=bT;obtain⟨hb,aU,bX⟩:=LJ aE;obtain⟨BX,aG⟩:∃k,k=yb.heap.size:=⟨_,rfl⟩;rw[<-aG]at bX⊢;have b7:v5.heap.size<=BX:=by rw[aG];exact hT.size
   have rX:=bX.l;replace hT:=hT.j (hb.i hT.size);clear hb bX aU aG aE;refine aA.o _ _ (⟨B0.r1.I hT,rR.I hT⟩) (λcJ=>?_)
   try simp only[PS]
   refine ND 4 rfl (λKq aA=>?_);refine LK (by rfl) 151 #[.int .i64 (ss.length:Int),.int .i64 H] (by go_simp) (HB.o _) ?_;rintro e wz ⟨rfl,aO⟩;refine⟨_,rfl,?_⟩;rw[aO];clear aO wz;refine aA.o _ _ cJ (λ_=>?_)
   try simp only[PS]
   refine ND 11 rfl (λKq aA=>?_);have aJ:=B0.e.j (hT.i B0.e.size);refine LK (by rfl) 150 #[.agg #[.slice a ss.length c,.slice a' ws.length c'],.int .i64 q,.int .i64 Q,.int .i64 F,.int .i64 R,.int .i64 n] (by go_simp) (aN.o _ (h.I aJ) (h'.I aJ)) ?_;rintro e aS ⟨ax,cx,rfl,aL,aM,hb⟩;refine⟨_,rfl,?_⟩;have dX:=PG (lo:=bT.heap.size) aL YA aM
   have cP:∀g,blk ax es.length=some g->v5.heap.size<=g:=λg k=>AL hT.size (aM g k)
   have lX:=rX.lt;replace rX:=rX.I hb;replace hT:=hT.j (hb.i hT.size);clear hb aL aJ;refine aA.o _ _ (⟨B0.r1.I hT,rR.I hT⟩) (λcL=>?_)
   try simp only[PS]
   obtain⟨yz,rfl⟩:∃y,y=aS:=⟨_,rfl⟩;have dR:=cL
  all_goals
   refine PD (rs:=[13]) (by kernel_rfl) (by simp) ?_;refine AllReadyT.last rfl (λKq aA=>?_);obtain⟨l0,l1,l2⟩:=rX.k3;obtain⟨f0,f1,f2⟩:=rX.z3;have ll:=rX.lt;go_simp;clear l0 l1 l2 f0 f1 f2 ll;refine aA.o _ _ trivial (λ_=>?_)
   try simp only[PS]
   refine UN (by kernel_rfl) ?_ _;have G:=MC (MC (MC (BH yz (some BX)) 0 (.slice ax es.length cx)) 1 (.int .i64 U)) 2 (.int .i64 L);have rY:=((rX.set 0 (by simp) (.slice ax es.length cx)).set 1 (by simp) (.int .i64 U)).set 2 (by simp) (.int .i64 L)
   have dY:=dX.z G (λg e=>by cases e;first|(left;omega)|(right;omega))
   have hY:=hT.j (NE G hT.size (λx e=>by have e:=DA e;omega));generalize cF:World.setCell (World.setCell (World.setCell _ _ _) _ _) _ _=yC at rY dY hY⊢;clear cF G;go_wp2_with fail;go_meet;exact⟨BX,ax,cx,rfl,rY,b7,dY.l,cP,hY⟩
 case rest =>
 obtain⟨BX,ax,cx,rfl,rX,b7,aL,aM,hb⟩:=hcut
 rename World=>v6
 replace B0:=B0.I hb;replace rR:=rR.I hb;clear hb;have c0:=rX.x 0;have cl:=rX.lt;go_wp2_with fail;clear c0 cl;have aQ:=LE (dF.o _ cx _ aL.strs)
 cases hf:NF es [] with
 | none =>
  obtain rfl:D=LT 2:=eB.o hf;rw[hf]at aQ;simp only[JP,JD,AR]at aQ;clear hf;refine(aQ.o).i ?_;rintro e v7 ⟨a6,c6,rfl,_,_,_,hb⟩;replace B0:=B0.I hb;clear hb;go_upto_region 8 with fail;generalize aI:v7.alloc _=v8;obtain⟨hb,aT,b8⟩:=LJ aI;clear aI aT b8;replace B0:=B0.I hb;clear hb;go_upto_region 9 with fail;refine B0.noR 2 _ _ rfl (by go_simp) rfl rfl rfl rfl (λy R8 aD=>?_)
  try simp only[PS]
  clear B0
  try go_wp2
  refine RN 4 results107 _ ?_ R8 ?_ aD.o<;>rfl
 | some rs =>
  rw[hf]at aQ;simp only[GA,JE]at aQ;have bQ:=bn es [] UR rs hf;have cU:=SG bQ;have dM:=LE cU.2;have eS:=cU.1;have cA:=LE (eC.o rs hf);have aW:=LE (cZ.o rs hf);have aX:=LE (dB.o rs hf);have aY:=LE (cB.o rs hf);have aZ:=LE (dL.o rs);have cC:=LE (λay cy wx k1=>jg ay rs cy n wx k1 (by omega) dM.o);have eI:=YQ (MN rs) n;have eT:=WX rs;obtain⟨r,eF⟩:∃r,Hid (r=MH (MN rs) n):=⟨_,LE rfl⟩;rw[<-eF.o]at cC eI aW aX aY aZ;clear hf cU bQ;refine(aQ.o).i ?_;rintro e v7 ⟨a6,c6,rfl,eH,cS,dZ,hb⟩;have dT:=PG (lo:=v6.heap.size) cS Gc dZ
  have eJ:∀g,blk a6 rs.length=some g->g<v7.heap.size:=λg k=>XJ cS k
  have l6:=B0.r2.lt;have eZ:v6.heap.size<=v7.heap.size:=hb.size;replace B0:=B0.I hb;replace rX:=rX.I hb;replace rR:=rR.I hb;clear hb cS aQ;go_upto_region 8 with fail;generalize aI:v7.alloc _=v8;obtain⟨hb,aT,b8⟩:=LJ aI;clear aI;obtain⟨B8,bC⟩:∃k,k=v7.heap.size:=⟨_,rfl⟩;rw[<-bC]at b8⊢;have r8:=b8.l;replace B0:=B0.I hb;replace rX:=rX.I hb;replace rR:=rR.I hb;replace dT:=dT.I hb;clear hb b8 aT bC;have x2:=rX.x 2;have xl:=rX.lt
  by_cases h4:60000<L+1
  case pos =>
   obtain rfl:D=LT 3:=cA.o (by omega);go_upto_region 11 with fail;refine B0.noR 3 _ _ rfl (by go_simp) rfl rfl rfl rfl (λy R8 aD=>?_)
   try simp only[PS]
   clear B0
   try go_wp2
   refine RN 4 results107 _ ?_ R8 ?_ aD.o<;>rfl
  have eK:L+1<=60000:=by omega
  have s0:=r8.x 0;have sl:=r8.lt;go_wp2_with fail;clear x2 xl s0 sl;refine(cC.o _ _ _ dT.l.prs).i ?_;rintro e va ⟨rfl,hb⟩;replace B0:=B0.I hb;replace rX:=rX.I hb;replace rR:=rR.I hb;replace r8:=r8.I hb;replace dT:=dT.I hb;clear hb cC
  by_cases h5:Q-1<r
  case pos =>
   obtain rfl:D=LT 4:=aW.o (by omega) (by omega);go_upto_region 13 with fail;refine B0.noR 4 _ _ rfl (by go_simp) rfl rfl rfl rfl (λy R8 aD=>?_)
   try simp only[PS]
   clear B0
   try go_wp2
   refine RN 4 results107 _ ?_ R8 ?_ aD.o<;>rfl
  have eL:r<=Q-1:=by omega
  have x1:=rX.x 1;have x2:=rX.x 2;have xl:=rX.lt;obtain⟨t0,t1,t2,t3⟩:=rR.k4;have tl:=rR.lt;have s0:=r8.x 0;have sl:=r8.lt;go_upto_region 15 with fail;clear x1 x2 xl t0 t1 t2 t3 tl s0 sl;generalize bJ:va.alloc _=v9;obtain⟨hb,cY,b9⟩:=LJ bJ;clear bJ;obtain⟨B9,aH⟩:∃k,k=va.heap.size:=⟨_,rfl⟩;rw[<-aH]at b9⊢;have r9:Row v9 B9 (sJ n (ss.length:Int) (L+1) T H F R U 0 (.slice a6 rs.length c6)):=b9.l;have l9:v7.heap.size<=B9:=by rw[aH];exact dT.top
  have fB:BX<B9:=by rw[aH];exact rX.lt
  have fA:BR<B9:=by rw[aH];exact rR.lt
  replace B0:=B0.I hb;replace dT:=dT.I hb;replace rX:=rX.I hb;replace rR:=rR.I hb;clear hb b9 cY r8 aH;have fC:v7.heap.size<=v9.heap.size:=dT.top;have x1:=rX.x 1;have xl:=rX.lt
  by_cases h6:Q<=U
  case pos =>
   have bW:=LE (λay cy wx k1=>pP n ss.length (L+1) T H F R U 0 ay rs cy wx k1 (by omega) dM.o (aZ.o (by omega) (by omega)));have hD:D=OY n ss.length (L+1) T H F rs:=aX.o (by omega) (by omega) (by omega);rw[<-hD]at bW;unfold LV at bW;clear hD;go_upto_region 16 with fail;clear x1 xl;refine BA ?_;refine AN rfl 50 _ rfl B9 0 rfl _ _ r9.range underlying50 rfl OH ?_;simp only[PS];go_wp2_with fail;refine(bW.o _ _ _ dT.l.prs).i ?_;rintro e vc ⟨oa,oc,ob,oe,rfl,cO,own,g1,g2,hb⟩;have lb:=hb.size;replace B0:=B0.I hb;clear hb bW;unfold MQ
   try simp only[PS]
   refine‹∀(a:Act) (w:World),wpList _ _ _ _ a w->_› _ _ ?_
   refine BI rfl 118 _ _ rfl (w.heap.size+1) 0 (dK D.C D.W D.S D.L D.T D.H D.F D.R D.U D.O (.slice oa D.rs.length oc) (.slice ob D.ops.length oe)) rfl rfl (B0.r2.there rfl) RK (by kernel_rfl) ?_
   try simp only[PS]
   obtain⟨R8,HP⟩:=B0.fin D oa oc ob oe cO own (λg k=>by have:=g1 g k;omega) (λg k=>by have:=g2 g k;omega);have aD:=LE HP;clear HP;generalize aE:World.setCells _ _ _ _=y at R8 aD⊢;clear aE B0
   try go_wp2
   refine RN 4 results107 _ ?_ R8 ?_ aD.o<;>rfl
  have eM:U<Q:=by omega
  have dH:=LE (λwx=>YG 3 (L+1) (F+U) empty n wx (by decide));have dP:=aY.o (by omega) (by omega) (by omega);obtain⟨FM,dQ⟩:∃FM,FM=MP 3 (L+1) (F+U) empty n:=⟨_,rfl⟩;rw[<-dQ]at dH dP;subst dP;clear dQ;have c7:=r9.x 7;have f7:=r9.q 7;have cl:=r9.lt;go_upto_region 18 with fail;clear c7 f7 cl x1 xl;have G:=MC (BH v9 (some B9)) 7 (.int .i64 (U+1));replace r9:Row _ B9 (sJ n (ss.length:Int) (L+1) T H F R (U+1) 0 (.slice a6 rs.length c6)):=r9.set 7 (by simp) (.int .i64 (U+1));replace dT:=dT.z G (λg e=>by cases e;omega);replace B0:=B0.aside G (by omega);replace rX:=rX.z G (λe=>by injection e with e;omega);replace rR:=rR.z G (λe=>by injection e with e;omega);generalize cE:World.setCell _ _ _=vb at r9 dT B0 rX rR⊢;clear cE G;have x1:=rX.x 1;have xl:=rX.lt;have t2:=rR.x 2;have tl:=rR.lt;have c2:=r9.x 2;have cl:=r9.lt
  go_wp2_with fail;clear x1 xl t2 tl c2 cl;refine(dH.o _).i ?_;rintro e vc ⟨rfl,hb⟩;replace B0:=B0.I hb;replace rX:=rX.I hb;replace rR:=rR.I hb;replace r9:=r9.I hb;replace dT:=dT.I hb;have fE:v7.heap.size<=vc.heap.size:=dT.top;clear hb;go_upto_region 19 with fail;have dD:=(AB vc.heap.size vc).drew;refine UV (13) (S:=λw'=>Row w' B9 (sJ n (ss.length:Int) (L+1) T H F R (U+1) 0 (.slice a6 rs.length c6))/\Row w' BR [.int .i64 T,.int .i64 H,.int .i64 F,.int .i64 R]/\Row w' BX [.slice ax es.length cx,.int .i64 U,.int .i64 L]) (by kernel_rfl) (⟨r9.I dD,rR.I dD,rX.I dD⟩) (λaC=>?_);refine MY 0 (.agg (sK n (ss.length:Int) (L+1) T H F R (U+1) 0 (.slice a6 rs.length c6))) rfl (BN ⟨by rfl,λw hw=>by obtain⟨z0,z1,z2⟩:=hw;exact OP 50 _ rfl _ 0 rfl _ _ z0.range underlying50 rfl OH⟩) aC (NZ 1 (.int .i64 (ss.length:Int)) rfl aC (MY 2 (.pointer (some ⟨BR,1,none⟩)) rfl (BN ⟨by rfl,λw hw=>by obtain⟨z0,z1,z2⟩:=hw;have l:=z1.lt;go_simp⟩) aC (MY 3 (.int .i64 H) rfl (BN ⟨by rfl,λw hw=>by obtain⟨z0,z1,z2⟩:=hw;have c:=z1.x 1;go_simp⟩) aC (MY 5 (.pointer (some ⟨BX,1,none⟩)) rfl (BN ⟨by rfl,λw hw=>by obtain⟨z0,z1,z2⟩:=hw;have l:=z2.lt;go_simp⟩) aC (MY 6 (.int .i64 U) rfl (BN ⟨by rfl,λw hw=>by obtain⟨z0,z1,z2⟩:=hw;have c:=z2.x 1;go_simp⟩) aC (NZ 8 (.string FM) rfl aC (NZ 10 (.agg #[.bool true,.int .i64 0,.string ⟨#[]⟩]) rfl aC ?_)))))))
  simp only[PS];refine ND 4 rfl (λKq aA=>?_);refine LK (by rfl) 151 #[.int .i64 (ss.length:Int),.int .i64 H] (by go_simp) (HB.o _) ?_;rintro e wz ⟨rfl,aO⟩;refine⟨_,rfl,?_⟩;rw[aO];clear aO wz;refine aA.o _ _ aC (λ_=>?_)
  try simp only[PS]
  refine NZ 7 (.int .i64 (q+U)) rfl aC ?_;simp only[PS];refine ND 9 rfl (λKq aA=>?_);refine LK (by rfl) 155 #[.int .i64 (q+U),.string FM] (by go_simp) (ch _ _ _) ?_;rintro e y9 ⟨rfl,hb⟩;refine⟨_,rfl,?_⟩;replace hb:=dD.j (hb.i dD.size);replace B0:=B0.I hb;replace r9:=r9.I hb;replace rX:=rX.I hb;replace rR:=rR.I hb;replace dT:=dT.I hb;have hv:=hb.size;clear hb;refine aA.o _ _ (⟨r9,rR,rX⟩) (λcH=>?_)
  try simp only[PS]
  refine ND 11 rfl (λKq aA=>?_);go_simp;generalize aE:World.alloc _ _=aS;obtain⟨hb,aU,b4⟩:=LJ aE;obtain⟨B4,dN⟩:∃k,k=y9.heap.size:=⟨_,rfl⟩;rw[<-dN]at b4⊢;have r4:=b4.l;have l4:v7.heap.size<=B4:=by omega
  replace B0:=B0.I hb;replace r9:=r9.I hb;replace rX:=rX.I hb;replace rR:=rR.I hb;replace dT:=dT.I hb;clear hb b4 aU dN aE;refine aA.o _ _ (⟨r9,rR,rX⟩) (λaR=>?_)
  try simp only[PS]
  refine NZ 12 (.agg (dK 0 n (ss.length:Int) (L+1) T H F R (U+1) 0 (.slice a6 rs.length c6) (.slice (some ⟨B4,0,none⟩) 2 2))) rfl aR ?_;simp only[PS];refine PD (rs:=[13]) (by kernel_rfl) (by simp) ?_;refine AllReadyT.last rfl (λKq aA=>?_);refine UK rfl 118 _ _ rfl (w.heap.size+1) 0 (dK 0 n (ss.length:Int) (L+1) T H F R (U+1) 0 (.slice a6 rs.length c6) (.slice (some ⟨B4,0,none⟩) 2 2)) rfl rfl (B0.r2.there rfl) RK (by kernel_rfl) ?_;refine aA.o _ _ trivial (λ_=>?_)
  try simp only[PS]
  refine UN (by kernel_rfl) ?_ _;obtain⟨R8,HP⟩:=B0.fin ⟨0,n,ss.length,L+1,T,H,F,R,U+1,0,rs,[(false,q+U,FM),(true,0,empty)]⟩ a6 c6 (some ⟨B4,0,none⟩) 2 eH ⟨dT.l,.inr ⟨B4,rfl,r4⟩,XI (N:=v7.heap.size) eJ (λg k=>by have:=WJ k;omega)⟩ (λg k=>by have:=dZ g k;omega) (λg k=>by have:=WJ k;omega);have aD:=LE HP;clear HP;generalize aE:World.setCells _ _ _ _=y at R8 aD⊢;clear aE B0
  try go_wp2
  refine RN (D:=⟨0,n,ss.length,L+1,T,H,F,R,U+1,0,rs,[(false,q+U,FM),(true,0,empty)]⟩) 4 results107 (a:=a6) (c:=c6) (b:=some ⟨B4,0,none⟩) (e:=2) _ ?_ R8 ?_ aD.o<;>rfl
