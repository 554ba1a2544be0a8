import Derived.Test.YthcfgbpailnahaaGreatDoorPrG34
set_option maxHeartbeats 16000000
namespace Go.Proofs.YthcfgbpailnahaaGreatDoor
open _root_.ByteArray(empty)
open Tryz
open Go.RowKit
set_option linter.all false
set_option maxRecDepth 8000
def oO:(prog.info? 122).map (λi=>(i.zero,i.size,i.bytes))=some (some (.agg #[.bool false,.int .i64 0,.string empty]),3,32):=by kernel_rfl
def Gs(b1 b2 b3:Bool)(n1 n2 n3:Int)(s1 s2 s3:ByteArray):∀u∈[Value.bool b1,.int .i64 n1,.string s1,.bool b2,.int .i64 n2,.string s2,.bool b3,.int .i64 n3,.string s3],u.oneCell'=true:=by
 intro u hu;simp only[DK,EN,IY]at hu;rcases hu with rfl|rfl|rfl|rfl|rfl|rfl|rfl|rfl|rfl<;>rfl
def ka(n h:Int)(h0:0<=h)(h1:h<=1)(w:World):Calls prog 151 #[.int .i64 n,.int .i64 h] w λe w'=>e=.returned (.int .i64 (2+h*hv n))/\w'=w:=by
 have hQ:0<=hv n/\hv n<=99:=by by_cases h:8<=n/\n<=200;have:=PH h;omega;rw[WE h];omega
 obtain⟨Q,HQ⟩:∃Q,Hid (Q=hv n):=⟨_,LE rfl⟩;rw[<-HQ.o]at hQ⊢;obtain⟨q,hq⟩:∃q,q=h*Q:=⟨_,rfl⟩
 have aA:0<=q/\q<=99:=by
  rcases(show h=0\/h=1 by omega) with e|e
  ·subst e;omega
  subst e;omega
 have aB:IntKind.i64.wrap (h*Q)=q:=by rw[<-hq];simp[IntKind.wrap,IntKind.bits,IntKind.signed];omega
 have aC:IntKind.i64.wrap (2+q)=2+q:=by simp[IntKind.wrap,IntKind.bits,IntKind.signed];omega
 rw[<-hq];clear hq;go_enter func151,ntmps151;go_wp2_with (go_at_call 103;refine(VA _ _).i ?_;rw[<-HQ.o];refine MT ?_);go_ret;exact⟨rfl,rfl⟩
def ch(n:Int)(d:ByteArray)(w:World):Calls prog 155 #[.int .i64 n,.string d] w λe w'=>e=.returned (.agg #[.bool false,.int .i64 n,.string d])/\Below w.heap.size w w':=by
 go_enter func155,ntmps155;go_wp2;refine AJ (v:=.agg #[.bool false,.int .i64 n,.string d]) (by simp[results,results155,go_sem]) rfl ⟨rfl,LG _ _⟩
def yH(S L T H F R U O:Int)(n m:Nat)(a:Option Addr)(rs:List Pr)(c:Nat)(w:World)(h:Prs w a rs)(hl:rs.length<=1048576)(hs:∀x∈rs,x.1.size<=1048576/\x.2.size<=1048576)(hm:n+m=56)(fA:1<=n)(fB:n<=8)(iR:VX (n:Int) S L T H F rs)(cL:T+1<=1000000000/\F+hv S<=999999000):Calls prog 153 #[LV (n:Int) S L T H F R U O a rs.length c] w λx w'=>RO w w' x (WO (n:Int) S L T H F rs):=by
 obtain⟨i0,eX,fI,fJ,fO⟩:=UP oO;have HI:=LE (AG eX (AG fI (AG fJ fO)));clear eX fI fJ fO;obtain⟨hW,hS,hL,hT,hH,hF,aT⟩:=iR;have hQ:=PH hS;have HH:=LE (λw'=>VA S w');have HB:=LE (λw'=>ka S (1-H) (by omega) (by omega) w');unfold WO LV;have e1:(n:Int).toNat=n:=by omega
 have e2:56-n=m:=by omega
 rw[e1,e2];obtain⟨Q,HQ⟩:∃Q,Hid (Q=hv S):=⟨_,LE rfl⟩;rw[<-HQ.o]at hQ HH HB aT cL⊢;obtain⟨q,hq⟩:∃q,q=2+(1-H)*Q:=⟨_,rfl⟩
 have kB:2<=q/\q<=101:=by
  rcases(show H=0\/H=1 by omega) with e|e
  ·subst e;omega
  subst e;omega
 rw[<-hq]at HB⊢;clear hq e1 e2;obtain⟨j3,j4⟩:=cL;obtain⟨aB,aW⟩:∃aB,aB=MN rs:=⟨_,rfl⟩;have iH:=WX rs
 have gE:Hid (∀b∈aB,b.length<=1048576/\∀x∈b,x.1.size<=1048576/\x.2.1.size<=1048576):=by
  intro b hb;rw[aW]at hb;obtain⟨h1,h2⟩:=fu hb;exact⟨by omega,λx hx=>hs _ (h2 x hx)⟩
 have dF:=LE (λw' h'=>yu a rs c w' h' hl hs);have cC:=LE (λk=>ew L (F+Q) n m hm fA fB (aB.take k))
 have bC:Hid (∀k,MH (aB.take k) (n:Int)<=Q-1):=λk=>by
  have:=xt aB k (n:Int);rw[<-aW]at aT;omega
 rw[<-aW]at iH dF⊢;clear aW aT;obtain⟨rp,fF⟩:∃rp,rp=ON (T+1) (1-H) (F+Q) L (n:Int):=⟨_,rfl⟩;have eL:=LE (λw'=>nH (T+1) (1-H) (F+Q) L (n:Int) w');rw[<-fF]at eL⊢;clear fF;obtain⟨p0,eF⟩:∃p0,p0=MP 3 L (F+Q) empty (n:Int):=⟨_,rfl⟩;have cZ:=LE (λw'=>YG 3 L (F+Q) empty (n:Int) w' (by simp));rw[<-eF]at cZ;have gI:=LE eF;clear eF;obtain⟨wb,bJ⟩:∃wb,wb=((w.alloc (.cells (sK (n:Int) S L T H F R U O (.slice a rs.length c)) 50)).alloc (.cells (dK 0 0 0 0 0 0 0 0 0 0 (.slice none 0 0) (.slice none 0 0)) 118)).alloc (.cells #[.int .i64 (T+1),.int .i64 (1-H),.int .i64 (F+Q),.int .i64 L] 45):=⟨_,rfl⟩;have cO:wb.heap.size=w.heap.size+1+1+1:=by rw[bJ];simp
 have cY:Hid (Below w.heap.size w wb):=by show Below _ _ _;rw[bJ];exact((LG _ _).alloc (by simp) _).alloc (by simp<;>omega) _
 have cE:Hid (∀w',Below (w.heap.size+1+1+1) wb w'->Row w' (w.heap.size) (sJ (n:Int) S L T H F R U O (.slice a rs.length c))/\Row w' (w.heap.size+1) (dJ 0 0 0 0 0 0 0 0 0 0 (.slice none 0 0) (.slice none 0 0))/\Row w' (w.heap.size+1+1) [.int .i64 (T+1),.int .i64 (1-H),.int .i64 (F+Q),.int .i64 L]):=λw' hb=>by
  have dP:Below wb.heap.size wb w':=by rw[cO];exact hb
  have r0:Row wb (w.heap.size) (sJ (n:Int) S L T H F R U O (.slice a rs.length c)):=by rw[bJ];exact((ME w _ _).alloc _).alloc _
  have r1:Row wb (w.heap.size+1) (dJ 0 0 0 0 0 0 0 0 0 0 (.slice none 0 0) (.slice none 0 0)):=by rw[bJ];exact(ZF (w:=w.alloc _) (by simp)).alloc _
  have r2:Row wb (w.heap.size+1+1) [.int .i64 (T+1),.int .i64 (1-H),.int .i64 (F+Q),.int .i64 L]:=by rw[bJ];exact ZF (w:=(w.alloc _).alloc _) (by simp)
  exact⟨r0.I dP,r1.I dP,r2.I dP⟩
 go_enter func153,ntmps153
 go_wp2_with (first|(go_at_call 103;refine(HH.o _).i ?_;refine MT ?_)|(go_at_call 151;refine(HB.o _).i ?_;refine MT ?_))
 rw[<-bJ];clear bJ;refine(cZ.o _).i ?_;rintro e w1 ⟨rfl,dQ⟩;go_wp2_with fail;refine(ch _ _ _).i ?_;rintro e w2 ⟨rfl,eP⟩;have aV:Below (w.heap.size+1+1+1) wb w2:=by rw[<-cO];exact dQ.j (eP.i dQ.size)
 have fG:w.heap.size+1+1+1<=w2.heap.size:=by have:=aV.size;omega
 clear dQ eP cZ HH HB;have iS:w.heap.size<w2.heap.size:=by omega
 obtain⟨aO,_,_⟩:=cE.o _ aV;have q9:=aO.x 9;clear aO;go_wp2_with fail;clear q9;have dV:Below (w.heap.size+1+1+1) wb (w2.alloc (.cells #[.bool false,.int .i64 q,.string p0] 122)):=aV.alloc fG _;refine(dF.o _ (h.I (cY.o.j (dV.i (by omega))))).i ?_;rintro e w3 ⟨v,rfl,bU,cT⟩
 have bF:w3.ownsRow (w.heap.size+1+1+1) 122 3 (.slice (some ⟨w2.heap.size,0,none⟩) 1 1) 1 (MW (MG q (OD L (F+Q) n m (aB.take 0)))):=by
  have h0:=DM w2 (base:=w.heap.size+1+1+1) (e:=122) (size:=3) #[.bool false,.int .i64 q,.string p0] 1 fG (by unfold maxLen;omega) (by simp);rw[FE,gi,<-gI.o];have e0:MW (MG q [p0])=[.bool false,.int .i64 q,.string p0]:=by simp[MG,MW]
  rw[e0];exact LY h0 cT
 have eM:=Grow.start bF;have eY:(OD L (F+Q) n m (aB.take 0)).length=1:=by rw[FE,gi];rfl
 have kC:w2.heap.size<w3.heap.size:=by have:=cT.size;simp at this;omega
 have cH:Below (w.heap.size+1+1+1) wb w3:=dV.j (cT.i (by simp;omega));have fX:Hid (Bat w3 (w2.heap.size+1) v aB):=bU.i (by simp);obtain⟨va,vc,rfl,_⟩:=bU.bts;clear bU cT dV aV bF dF;have fW:=LE cH;have fZ:=LE eM;clear cH eM;go_wp2_with fail;go_loopw [6,8,9] (λy u i wr=>∃k:Nat,k<=aB.length/\i=.int .i64 (k:Int)/\u=.int .i64 ((OD L (F+Q) n m (aB.take k)).length:Int)/\Grow w3 wr (some w2.heap.size) (w.heap.size+1+1+1) 122 3 y (OD L (F+Q) n m (aB.take k)).length (MW (MG q (OD L (F+Q) n m (aB.take k))))) (λ_ _ i _=>aB.length-(intOf i).toNat)
 case atStart=>exact⟨0,AH _,rfl,by rw[eY];rfl,by rw[eY];exact fZ.o⟩
 case round =>
  obtain⟨k,hk,rfl,rfl,bE⟩:=hrel;have b7:Below (w.heap.size+1+1+1) wb wr:=fW.o.j (WA bE.gb (by omega) (λk hk=>by cases hk;omega));have cA:w.heap.size+1+1+1<=wr.heap.size:=by have:=b7.size;omega
  have hN:((OD L (F+Q) n m (aB.take k)).length:Int)<=99:=by have h1:=cC.o k;have h2:=bC.o k;omega
  obtain⟨aA,aN⟩:∃aA,aA=OD L (F+Q) n m (aB.take k):=⟨_,rfl⟩;rw[<-aN]at bE hN⊢
  obtain⟨ya,yc,rfl⟩:∃ya yc,u6=Value.slice ya aA.length yc:=by
   rcases MM bE.own with ⟨e1,e2⟩|⟨g,cap,e1,_⟩
   ·exact⟨none,0,by rw[e1,e2]⟩
   exact⟨_,cap,e1⟩
  obtain⟨aO,bT,aQ⟩:=cE.o _ b7
  by_cases eC:k<aB.length
  ·have eQ:=fX.o.kept bE.gb (λk hk=>by cases hk;left;omega)
   obtain⟨lF,lG,ev,eS⟩:=eQ.bts
   cases ev
   obtain⟨gl,p,cc,rfl,iM,eB,dZ⟩:=eS.at eC;have iQ:(k:Int)<(aB.length:Int):=by omega
   have j7:(0:Int)<=(k:Int):=by omega
   have aY:=gE.o (aB.getD k []) (by simp[List.getD,eC]);have iF:((OD L (F+Q) n m (aB.take (k+1))).length:Int)<=99:=by have h1:=cC.o (k+1);have h2:=bC.o (k+1);omega
   have cB:OD L (F+Q) n m (aB.take (k+1))=aA++NQ (LX (aB.getD k [])) L (F+Q+(aA.length:Int)) n m:=by rw[XL aB k [] eC,re,<-aN]
   have hO:=XT (aB.getD k []);obtain⟨b,hb⟩:∃b,b=aB.getD k []:=⟨_,rfl⟩;rw[<-hb]at eB dZ aY cB hO;have HF:=LE (λW (hW:Chs W p b)=>YW p b cc W hW aY.1 aY.2);obtain⟨bo,eR⟩:∃bo,bo=LX b:=⟨_,rfl⟩;rw[<-eR]at HF cB hO;have HC:=LE (λW=>pL bo L (F+Q+(aA.length:Int)) n m W (by omega) hm fA fB);obtain⟨aJ,hcut⟩:∃aJ,aJ=NQ bo L (F+Q+(aA.length:Int)) n m:=⟨_,rfl⟩;rw[<-hcut]at HC cB;rw[cB,AF]at iF;have gK:=LE cB;have fT:=LE aN;have kF:IntKind.i64.wrap (F+Q+(aA.length:Int))=F+Q+(aA.length:Int):=by simp[IntKind.wrap,IntKind.bits,IntKind.signed];omega
   have HT:Hid (∀w',Below wr.heap.size wr w'->w'.cell? ⟨gl,k,none⟩=some (.slice p b.length cc)/\w'.cell? ⟨w.heap.size,0,none⟩=some (.int .i64 (n:Int))/\w'.cell? ⟨w.heap.size,2,none⟩=some (.int .i64 L)/\w'.cell? ⟨w.heap.size+1+1,2,none⟩=some (.int .i64 (F+Q))/\Below wr.heap.size wr w'):=λw' hb=>⟨(hb.cell (p:=⟨gl,k,none⟩) iM).j eB,(aO.I hb).x 0,(aO.I hb).x 2,(aQ.I hb).x 2,hb⟩
   have eJ:=LE dZ;have aZ:=LE bE;have cP:=LE b7;clear hb eR hcut cB aN aY dZ bE b7 aO bT aQ eQ eB eS;go_wp2_with fail;refine AP (S:=λw'=>w'.cell? ⟨gl,k,none⟩=some (.slice p b.length cc)/\w'.cell? ⟨w.heap.size,0,none⟩=some (.int .i64 (n:Int))/\w'.cell? ⟨w.heap.size,2,none⟩=some (.int .i64 L)/\w'.cell? ⟨w.heap.size+1+1,2,none⟩=some (.int .i64 (F+Q))/\Below wr.heap.size wr w') (by kernel_rfl) (HT.o _ (AB _ _).drew) (λaG=>?_);refine TY 0 (.slice (some ⟨gl,0,none⟩) aB.length vc) rfl aG (TY 1 (.int .i64 (k:Int)) rfl aG (TY 2 (.pointer (some ⟨gl,k,none⟩)) rfl aG (TY 3 (.slice p b.length cc) rfl aG (TY 5 (.pointer (some ⟨w.heap.size,2,none⟩)) rfl aG (TY 6 (.int .i64 L) rfl aG (TY 7 (.pointer (some ⟨w.heap.size+1+1,2,none⟩)) rfl aG (TY 8 (.int .i64 (F+Q)) rfl aG (TY 9 (.int .i64 (aA.length:Int)) rfl aG (TY 10 (.int .i64 (F+Q+(aA.length:Int))) rfl aG (TY 11 (.pointer (some ⟨w.heap.size,0,none⟩)) rfl aG (TY 12 (.int .i64 (n:Int)) rfl aG ?_)))))))))))
   simp only[PS];refine RD 4 rfl (λK hK=>?_);refine LK (by rfl) 148 #[.slice p b.length cc] (by go_simp) (HF.o _ (eJ.o.I (AB _ _).drew)) ?_;rintro e w4 ⟨rfl,cI⟩;refine⟨_,rfl,?_⟩;have aI:Below wr.heap.size wr w4:=(AB _ _).drew.j cI;refine hK.o _ _ (HT.o _ aI) (λbQ=>?_);clear hK K
   try simp only[PS]
   refine RD 13 rfl (λK hK=>?_);refine LK (by rfl) 158 #[.string bo,.int .i64 L,.int .i64 (F+Q+(aA.length:Int)),.int .i64 (n:Int)] (by go_simp) (HC.o _) ?_;rintro e w5 ⟨a5,c5,rfl,fE,eT,cJ⟩;refine⟨_,rfl,?_⟩;have aF:Below wr.heap.size wr w5:=aI.j (cJ.i aI.size);refine hK.o _ _ (HT.o _ aF) (λaU=>?_);clear hK K
   try simp only[PS]
   refine RD 14 rfl (λK hK=>?_);go_simp;refine hK.o _ _ aU (λ_=>?_);clear hK K
   try simp only[PS]
   refine DN ?_;have eI:=LE aF;have gG:=LE fE
   have eU:∀g,blk a5 aJ.length=some g->wr.heap.size<=g:=λg hg=>AL aI.size (eT g hg)
   have fY:=LE eU;have cU:=aF.size;clear aF cJ fE eT aI cI eU HT HF HC eJ aG bQ aU;generalize wr=wo at *;go_wp2_with fail;go_loopw [6,8,11] (λy2 u2 i2 wr=>∃j:Nat,j<=aJ.length/\i2=.int .i64 (j:Int)/\u2=.int .i64 ((aA++aJ.take j).length:Int)/\Grow w5 wr (Value.slice ya aA.length yc).ownBlock (w.heap.size+1+1+1) 122 3 y2 (aA++aJ.take j).length (MW (MG q (aA++aJ.take j)))) (λ_ _ i2 _=>aJ.length-(intOf i2).toNat)
   case atStart=>exact⟨0,AH _,rfl,by simp,by rw[FE,EY];exact Grow.start (LY aZ.o.own eI.o)⟩
   case round =>
    obtain⟨j,hj,rfl,rfl,aL⟩:=hrel;have eO:(aA++aJ.take j).length=aA.length+j:=by rw[AF,BC];omega
    obtain⟨aC,aK⟩:∃aC,aC=aA++aJ.take j:=⟨_,rfl⟩;rw[<-aK]at aL eO⊢
    obtain⟨fQ,fS,rfl⟩:∃fQ fS,u6=Value.slice fQ aC.length fS:=by
     rcases MM aL.own with ⟨e1,e2⟩|⟨g,cap,e1,_⟩
     ·exact⟨none,0,by rw[e1,e2]⟩
     exact⟨_,cap,e1⟩
    have eH:wo.heap.size<=wr.heap.size:=AL cU aL.gb.size
    by_cases aX:j<aJ.length
    ·obtain⟨g5,rfl,bI⟩:=gG.o.resolve_left (by intro e;have:=BT List.length e;simp at this;rw[this]at aX;simp at aX)
     have j5:wo.heap.size<=g5:=fY.o g5 (MI _ _ _ (by omega));have bW:=bI.z aL.gb (λe=>by have:=(aZ.o.own.lt g5 e.symm).2;omega);have iJ:=bW.cell j (.string (aJ.getD j empty)) (by simp[aX,List.getD]);obtain⟨pj,eG⟩:∃pj,pj=aJ.getD j empty:=⟨_,rfl⟩;rw[<-eG]at iJ;have iK:=bW.lt;have eZ:(j:Int)<(aJ.length:Int):=by omega
     have j6:(0:Int)<=(j:Int):=by omega
     have kG:IntKind.i64.wrap (q+(aC.length:Int))=q+(aC.length:Int):=by simp[IntKind.wrap,IntKind.bits,IntKind.signed];omega
     have kH:IntKind.i64.wrap ((aC.length:Int)+1)=(aC.length:Int)+1:=by simp[IntKind.wrap,IntKind.bits,IntKind.signed];omega
     have cQ:=LE aL;have cV:=LE aK;have gJ:=LE eG;have j2:aC.length<=200:=by omega
     clear bW bI aL aK eG eO
     go_wp2_with (first|(go_at_call 155;refine(ch _ _ _).i ?_;rintro e w6 ⟨rfl,dR⟩;have cS:=LE ((LY cQ.o.own dR).alloc (.cells #[.bool false,.int .i64 (q+(aC.length:Int)),.string pj] 122));have kD:w.heap.size+1+1+1<=w6.heap.size:=AL (AL cA eH) dR.size)|(at_builtin;refine PU _ rfl _ _ 116 rfl (w.heap.size+1+1+1) underlying116 HI.o rfl (by omega) _ aC.length _ rfl cS.o ⟨w6.heap.size,0,none⟩ 1 1 [.bool false,.int .i64 (q+(aC.length:Int)),.string pj] rfl rfl (World.news_of_block (AY w6 _)) (WD _ _ _) (by simp;omega) (w6.heap.size+1) (by simp) ?_;intro g9 bP w9 aM aD aR eE;have gH:=LE aM;have gD:=LE aD;have fV:=LE aR;clear aM aD aR))
     have fH:aA++aJ.take (j+1)=aC++[pj]:=by rw[XL aJ j empty aX,<-BG,<-cV.o,<-gJ.o]
     refine⟨⟨j+1,by omega,by go_num,by rw[fH,AF];go_num,?_⟩,by simp[intOf];omega⟩;rw[fH,qq,cu,AF];refine((cQ.o.I dR).I (LG _ _)).push (H:=w6.heap.size+1) gH.o gD.o ?_ (by simp);rcases fV.o with h|h
     ·exact .inl h
     right;rw[h];rfl
    have iN:j=aJ.length:=by omega
    subst iN;have cQ:=LE aL;have cV:=LE aK;clear aL aK;go_wp2_with fail;have he:aC=OD L (F+Q) n m (aB.take (k+1)):=by rw[cV.o,gK.o,DC]
    refine⟨⟨k+1,by omega,by go_num,by rw[<-he],?_⟩,by simp[intOf];omega⟩;rw[<-he];exact(aZ.o.I eI.o).j cQ.o
  have iO:k=aB.length:=by omega
  subst iO;have he:aA=OD L (F+Q) n m aB:=by rw[aN,DC]
  clear aN;have fU:=LE he;have aZ:=LE bE;have cP:=LE b7
  have HT:Hid (∀w',Below (w.heap.size+1+1+1) wr w'->w'.cell? ⟨w.heap.size,0,none⟩=some (.int .i64 (n:Int))/\w'.cell? ⟨w.heap.size+1+1,0,none⟩=some (.int .i64 (T+1))/\w'.cell? ⟨w.heap.size+1+1,1,none⟩=some (.int .i64 (1-H))/\w'.cell? ⟨w.heap.size+1+1,2,none⟩=some (.int .i64 (F+Q))/\w'.cell? ⟨w.heap.size+1+1,3,none⟩=some (.int .i64 L)):=λw' hb=>by
   obtain⟨aO,bT,aQ⟩:=cE.o _ (cP.o.j hb);exact⟨aO.x 0,aQ.x 0,aQ.x 1,aQ.x 2,aQ.x 3⟩
  have kE:(T+1).tmod 2=(T+1) % 2:=GC (by omega);clear bE b7 he aO bT aQ;go_wp2_with fail;refine AP (S:=λw'=>w'.cell? ⟨w.heap.size,0,none⟩=some (.int .i64 (n:Int))/\w'.cell? ⟨w.heap.size+1+1,0,none⟩=some (.int .i64 (T+1))/\w'.cell? ⟨w.heap.size+1+1,1,none⟩=some (.int .i64 (1-H))/\w'.cell? ⟨w.heap.size+1+1,2,none⟩=some (.int .i64 (F+Q))/\w'.cell? ⟨w.heap.size+1+1,3,none⟩=some (.int .i64 L)) (by kernel_rfl) (HT.o _ (AB _ _).drew) (λaG=>?_);refine TY 0 (.slice ya aA.length yc) rfl aG (TY 1 (.agg #[.bool true,.int .i64 0,.string ⟨#[]⟩]) rfl aG (TY 2 (.pointer (some ⟨w.heap.size+1+1,0,none⟩)) rfl aG (TY 3 (.int .i64 (T+1)) rfl aG (TY 4 (.int .i64 ((T+1) % 2)) rfl aG (TY 5 (.agg #[.int .i64 (T+1),.int .i64 (1-H),.int .i64 (F+Q),.int .i64 L]) rfl aG (TY 6 (.pointer (some ⟨w.heap.size,0,none⟩)) rfl aG (TY 7 (.int .i64 (n:Int)) rfl aG (TY 10 (.agg #[.bool true,.int .i64 0,.string ⟨#[]⟩]) rfl aG ?_))))))))
  simp only[PS];refine RD 8 rfl (λK hK=>?_);refine LK (by rfl) 201 #[MV (T+1) (1-H) (F+Q) L,.int .i64 (n:Int)] (by go_simp) (eL.o _) ?_;rintro e w4 ⟨rfl,cI⟩;refine⟨_,rfl,?_⟩;have aI:Below wr.heap.size wr w4:=(AB _ _).drew.j cI;refine hK.o _ _ (HT.o _ (aI.i cA)) (λbQ=>?_);clear hK K
  try simp only[PS]
  refine RD 9 rfl (λK hK=>?_);refine LK (by rfl) 155 #[.int .i64 ((T+1) % 2),.string rp] (by go_simp) (ch _ _ _) ?_;rintro e w5 ⟨rfl,cJ⟩;refine⟨_,rfl,?_⟩;have aF:Below wr.heap.size wr w5:=aI.j (cJ.i aI.size);have cU:w.heap.size+1+1+1<=w5.heap.size:=AL cA aF.size;have cS:=LE ((LY aZ.o.own aF).alloc (.cells #[.bool true,.int .i64 0,.string ⟨#[]⟩,.bool false,.int .i64 ((T+1) % 2),.string rp,.bool true,.int .i64 0,.string ⟨#[]⟩] 122));refine hK.o _ _ (HT.o _ (aF.i cA)) (λaU=>?_);clear hK K
  try simp only[PS]
  refine RD 11 rfl (λK hK=>?_);go_simp;refine hK.o _ _ (HT.o _ ((aF.i cA).alloc cU _)) (λdN=>?_);clear hK K
  try simp only[PS]
  refine RD 12 rfl (λK hK=>?_);refine QO _ (by rfl) _ _ _ (by rfl) (w.heap.size+1+1+1) underlying116 HI.o rfl (by omega) (.slice ya aA.length yc) aA.length _ (by rfl) cS.o ⟨w5.heap.size,0,none⟩ 3 3 [.bool true,.int .i64 0,.string ⟨#[]⟩,.bool false,.int .i64 ((T+1) % 2),.string rp,.bool true,.int .i64 0,.string ⟨#[]⟩] (by rfl) rfl (World.news_of_block (AY w5 _)) (Gs _ _ _ _ _ _ _ _ _) (by simp<;>omega) (w5.heap.size+1) (by simp) ?_;intro g9 bP w9 aM aD aR eE;have eN:=((aZ.o.I aF).I (LG _ _)).push (H:=w5.heap.size+1) aM aD (by rcases aR with h|h;exact .inl h;right;rw[h];rfl) (by simp);have dU:Below (w.heap.size+1+1+1) wr w9:=((aF.i cA).alloc cU _).j (WA aD (by simp;omega) (λk hk=>(aZ.o.own.lt k hk).1));have eK:=LE eN;have cX:=LE (cP.o.j dU);clear aM aD aR eN;refine hK.o _ _ (HT.o _ dU) (λcF=>?_);clear hK K
  try simp only[PS]
  refine RD 13 rfl (λK hK=>?_);go_simp;refine hK.o _ _ cF (λ_=>?_);clear hK K
  try simp only[PS]
  refine DN ?_;clear dU aF cJ aI cI aG bQ aU dN cF cS aZ cP HT;obtain⟨aO,bT,aQ⟩:=cE.o _ cX.o;obtain⟨iU,iV,iW,iX,iY,iZ,i3,i4,i5,i6⟩:=aO.k10;obtain⟨c10,i7,c12,i8,i9,jA,c16,jB,jC,jD,gM,gN⟩:=bT.k12;obtain⟨jI,jJ,jK,jL,jM,jN,jO,jP,jQ,jR,iB,iC⟩:=bT.z12;obtain⟨jE,jF,jG,jH⟩:=aQ.k4;have iT:w.heap.size+1+1+1<=w9.heap.size:=by have:=cX.o.size;omega
  have j8:w.heap.size<w9.heap.size:=by omega
  have j9:w.heap.size+1<w9.heap.size:=by omega
  have kA:w.heap.size+1+1<w9.heap.size:=by omega
  clear aO bT aQ;have dH:=LE (cX.o.alloc iT (.cells (sK (n:Int) S L (T+1) (1-H) (F+Q) L (aA.length:Int) 0 (.slice a rs.length c)) 50))
  go_wp2_with (first|(go_at_call 64;refine(bi a rs c _ (h.I (cY.o.j (dH.o.i (by omega)))) hl).i ?_;rintro x aP ⟨a3,c3,rfl,iI,fC,eV,aS⟩;have aH:=(ME w9 (sK (n:Int) S L (T+1) (1-H) (F+Q) L (aA.length:Int) 0 (.slice a rs.length c)) 50).I aS;have aE:=(cE.o _ (dH.o.j (aS.i (by simp;omega)))).2.1;have kK:aP.cell? ⟨w9.heap.size,0,none⟩=some (.int .i64 (n:Int)):=aH.x 0;have kV:=aH.q 0;have kL:aP.cell? ⟨w9.heap.size,1,none⟩=some (.int .i64 S):=aH.x 1;have kX:=aH.q 1;have kM:aP.cell? ⟨w9.heap.size,2,none⟩=some (.int .i64 L):=aH.x 2;have kY:=aH.q 2;have kO:aP.cell? ⟨w9.heap.size,3,none⟩=some (.int .i64 (T+1)):=aH.x 3;have kZ:=aH.q 3;have kP:aP.cell? ⟨w9.heap.size,4,none⟩=some (.int .i64 (1-H)):=aH.x 4;have k7:=aH.q 4;have kQ:aP.cell? ⟨w9.heap.size,5,none⟩=some (.int .i64 (F+Q)):=aH.x 5;have k8:=aH.q 5;have kR:aP.cell? ⟨w9.heap.size,6,none⟩=some (.int .i64 L):=aH.x 6;have k9:=aH.q 6;have kS:aP.cell? ⟨w9.heap.size,7,none⟩=some (.int .i64 (aA.length:Int)):=aH.x 7;have lA:=aH.q 7;have kT:aP.cell? ⟨w9.heap.size,8,none⟩=some (.int .i64 0):=aH.x 8;have lC:=aH.q 8;have kU:aP.cell? ⟨w9.heap.size,9,none⟩=some (.slice a rs.length c):=aH.x 9;have lE:=aH.q 9;have gQ:=aE.x 0;have jS:=aE.q 0;have gR:=aE.x 1;have jT:=aE.q 1;have gS:=aE.x 2;have jU:=aE.q 2;have gU:=aE.x 3;have jV:=aE.q 3;have gV:=aE.x 4;have jW:=aE.q 4;have gW:=aE.x 5;have jX:=aE.q 5;have gX:=aE.x 6;have jY:=aE.q 6;have gY:=aE.x 7;have jZ:=aE.q 7;have gZ:=aE.x 8;have j0:=aE.q 8;have iA:=aE.x 9;have j1:=aE.q 9;have dL:=aE.x 10;have iD:=aE.q 10;have dM:=aE.x 11;have iE:=aE.q 11;have gF:=LE fC;have dB:=LE eV;have iP:w9.heap.size<aP.heap.size:=aH.lt;have cW:=LE (dH.o.j (aS.i (by simp;omega)));have gL:=LE aS;clear aH aE fC eV aS))
  have iL:=eK.o.own.lt g9 rfl
  have eW:∀g,a3=some ⟨g,0,none⟩->LI rs≠[]->w9.heap.size<g:=λg hg cM=>by have:=dB.o g (by subst hg;exact MI _ _ _ (QG cM));simp at this;omega
  have iG:XM a3 rs.length (some ⟨g9,0,none⟩) (aA.length+3):=by
   cases hb:blk a3 rs.length with
   | none=>exact .inl hb
   | some g =>
    have:=dB.o g hb;simp at this;refine .inr (.inr λe=>?_);rw[hb,MI _ _ _ (by omega)]at e
    cases e
    omega
  have cN:Row aP g9 (MW (MG q aA++[(true,0,empty),(false,(T+1) % 2,rp),(true,0,empty)])):=by
   rw[cu];exact(RW eK.o.own).I (LG _ _ |>.j (gL.o.i (by simp)))
  rw[<-fU.o];have bV:(MG q aA++[(true,0,empty),(false,(T+1) % 2,rp),(true,0,empty)]).length=aA.length+3:=by simp[QC]
  refine AJ (v:=MQ ⟨0,(n:Int),S,L,T+1,1-H,F+Q,L,(aA.length:Int),0,rs,MG q aA++[(true,0,empty),(false,(T+1) % 2,rp),(true,0,empty)]⟩ a3 c3 (some ⟨g9,0,none⟩) bP) (by simp[results,results153,go_sem,MQ,bV,QC,gQ,gR,gS,gU,gV,gW,gX,gY,gZ,iA,dL,dM]) rfl ⟨a3,c3,_,bP,rfl,iI,⟨?_,?_,?_⟩,?_,?_,?_⟩
  ·iterate 12(refine OwnS.set' ?_ _ (λg hg cM=>by have:=eW g hg cM;show w.heap.size+1≠g;omega) _)
   exact OwnS.set' gF.o _ (λg hg cM=>by have:=eW g hg cM;show w9.heap.size≠g;omega) _
  ·refine .inr ⟨g9,rfl,?_⟩
   iterate 12(refine Row.other ?_ _ (by show w.heap.size+1≠g9;omega) _)
   exact cN.other _ (by show w9.heap.size≠g9;omega) _
  ·show XM _ _ _ (MG q aA++_).length
   rw[bV];exact iG
  ·exactλg hg=>by have:=dB.o g hg;simp at this;omega
  ·exactλg hg=>by change blk _ (MG q aA++_).length=_ at hg;rw[bV,MI _ _ _ (by omega)]at hg;cases hg;omega
  iterate 12(refine IB ?_ (by show w.heap.size<=w.heap.size+1;omega) _)
  exact(cY.o.j (cW.o.i (by omega))).setCell (p:=⟨w9.heap.size,9,none⟩) (by show w.heap.size<=w9.heap.size;omega) _
def pP(W S L T H F R U O:Int)(a:Option Addr)(rs:List Pr)(c:Nat)(w:World)(h:Prs w a rs)(hl:rs.length<=1048576)(hs:∀x∈rs,x.1.size<=1048576/\x.2.size<=1048576)(aB:VX W S L T H F rs):Calls prog 153 #[LV W S L T H F R U O a rs.length c] w λx w'=>RO w w' x (OY W S L T H F rs):=by
 unfold OY XR
 by_cases aA:T+1<=1000000000/\F+hv S<=999999000
 case pos =>
  rw[AO aA];simp only[IK];obtain⟨hW,_⟩:=id aB;obtain⟨n,rfl⟩:∃n:Nat,W=(n:Int):=⟨W.toNat,by omega⟩;exact yH S L T H F R U O n (56-n) a rs c w h hl hs (by omega) (by omega) (by omega) aB aA
 case neg =>
  rw[AI aA];simp only[EJ,IX];obtain⟨hW,hS,hL,hT,hH,hF,_⟩:=aB;have hQ:=PH hS;have HH:=LE (λw'=>VA S w');unfold LV;obtain⟨Q,HQ⟩:∃Q,Hid (Q=hv S):=⟨_,LE rfl⟩;rw[<-HQ.o]at hQ HH aA;clear h hl hs;go_enter func153,ntmps153
  go_wp2_with (first|(go_at_call 103;refine(HH.o _).i ?_;refine MT ?_))
  all_goals
   refine AJ (v:=MQ (LT 4) none 0 none 0) (by simp[results,results153,go_sem,MQ,LT]) rfl (Cb rfl ?_);exact((LG _ _).alloc (by simp) _).alloc (by simp<;>omega) _
