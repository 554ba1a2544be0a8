import Derived.Test.YteflhojcomcfaaaGreatDoorPrG27
set_option maxHeartbeats 16000000
namespace Go.Proofs.YteflhojcomcfaaaGreatDoor
open _root_.ByteArray(empty)
open Tryz
open Go.RowKit
set_option linter.all false
set_option maxRecDepth 8000
theorem yY:(prog.info? 167).map (λi=>(i.zero,i.size,i.bytes))=some (some (.agg #[Q1 false,Z 0,Ow empty]),3,32):=h
theorem Pa(b c d:Bool)(e f g:Int)(h i j:Q4):∀u∈[Q1 b,Z e,Ow h,Q1 c,Z f,Ow i,Q1 d,Z g,Ow j],u.oneCell'=true:=by
 intro u a;simp only[DZ,EY,IX]at a;rcases a with rfl|rfl|rfl|rfl|rfl|rfl|rfl|rfl|rfl<;>rfl
theorem yf(n h:Int)(i:0<=h)(j:h<=1)(w:Q9):Calls prog 162 #[Z n,Z h] w λe a=>e=Q2 (Z (2+h*hv n))/\a=w:=by
 have c:0<=hv n/\hv n<=99:=by by_cases h:8<=n/\n<=200;have:=QS h;omega;rw[eh h];omega
 obtain⟨Q,b⟩:=x (hv n);rw[<-b.j]at c⊢;obtain⟨q,a⟩:=u (h*Q)
 have d:0<=q/\q<=99:=by
  rcases(show h=0\/h=1 by omega) with e|e
  .subst e;omega
  subst e;omega
 have f:IntKind.i64.wrap (h*Q)=q:=by rw[<-a];simp[IntKind.wrap,IntKind.bits,IntKind.signed];omega
 have g:IntKind.i64.wrap (2+q)=2+q:=by simp[IntKind.wrap,IntKind.bits,IntKind.signed];omega
 rw[<-a];clear a;go_enter func162,ntmps162;go_wp2_with (go_at_call 47;refine(ZA _ _).J ?_;rw[<-b.j];refine OF ?_);go_ret;exact⟨z,z⟩
theorem pi(n:Int)(d:Q4)(w:Q9):Calls prog 167 #[Z n,Ow d] w λe a=>e=Q2 (.agg #[Q1 false,Z n,Ow d])/\Q3 w a:=by
 go_enter func167,ntmps167;go_wp2;refine H (v:=.agg #[Q1 false,Z n,Ow d]) (by simp[results,results167,go_sem]) z ⟨z,LH _ _⟩
theorem Io(S L T o F R U O:Int)(n m:Nat)(a:Q5)(E:List Pr)(c:Nat)(w:Q9)(s:Prs w a E)(hl:E.length<=1048576)(hs:∀t∈E,t.1.size<=1048576/\t.2.size<=1048576)(hm:n+m=56)(fC:1<=n)(fE:n<=8)(iV:bi (n:Int) S L T o F E)(cF:T+1<=1000000000/\F+hv S<=999999000):Calls prog 165 #[NA (n:Int) S L T o F R U O a E.length c] w λt A=>VZ w A t (am (n:Int) S L T o F E):=by
 obtain⟨i0,b,e,g,i⟩:=ZR yY;have HI:=LE (AG b (AG e (AG g i)));clear b e g i;obtain⟨hW,hS,hL,hT,hH,hF,i⟩:=iV;have hQ:=QS hS;have p:=LE (λA=>ZA S A);have g:=LE (λA=>yf S (1-o) d d A);unfold am NA;have C:(n:Int).toNat=n:=d
 have W:56-n=m:=d
 rw[C,W];obtain⟨Q,HQ⟩:=nHz (hv S);rw[<-HQ.j]at hQ p g i cF⊢;obtain⟨r,b⟩:=u (2+(1-o)*Q)
 have kB:2<=r/\r<=101:=by
  rcases(show o=0\/o=1 by omega) with e|e
  .subst e;omega
  subst e;omega
 rw[<-b]at g⊢;clear b C W;obtain⟨j3,j4⟩:=cF;obtain⟨B,e⟩:=u (NC E);have iL:=gi E
 have gI:Hid (∀b∈B,b.length<=1048576/\∀t∈b,t.1.size<=1048576/\t.2.1.size<=1048576):=by
  intro b G;rw[e]at G;obtain⟨h1,h2⟩:=tg G;exact⟨d,λt k=>hs _ (h2 t k)⟩
 have y:=LE (λA k=>wO a E c A k hl hs);have bW:=LE (λk=>mu L (F+Q) n m hm fC fE (B.take k))
 have bB:Hid (∀k,MY (B.take k) (n:Int)<=Q-1):=λk=>by
  have:=vV B k (n:Int);rw[<-e]at i;omega
 rw[<-e]at iL y⊢;clear e i;obtain⟨rp,e⟩:=u (QE (T+1) (1-o) (F+Q) L (n:Int));have eJ:=LE (λA=>xH (T+1) (1-o) (F+Q) L (n:Int) A);rw[<-e]at eJ⊢;clear e;obtain⟨p0,e⟩:=u (NB 3 L (F+Q) empty (n:Int));have v:=LE (λA=>jh 3 L (F+Q) empty (n:Int) A j);rw[<-e]at v;have gM:=LE e;clear e;obtain⟨x,e⟩:=u (((w.alloc (.cells (sK (n:Int) S L T o F R U O (Y a E.length c)) 44)).alloc (.cells (dK 0 0 0 0 0 0 0 0 0 0 (Y none 0 0) (Y none 0 0)) 115)).alloc (.cells #[Z (T+1),Z (1-o),Z (F+Q),Z L] 39));have cJ:x.heap.size=w.heap.size+1+1+1:=by rw[e];simp
 have cV:Hid (Q3 w x):=by show Below _ _ _;rw[e];exact((LH _ _).alloc j _).alloc ξ _
 have bY:Hid (∀A,Below (w.heap.size+1+1+1) x A->Row A (w.heap.size) (sJ (n:Int) S L T o F R U O (Y a E.length c))/\Row A (w.heap.size+1) (dJ 0 0 0 0 0 0 0 0 0 0 (Y none 0 0) (Y none 0 0))/\Row A (w.heap.size+1+1) [Z (T+1),Z (1-o),Z (F+Q),Z L]):=λA G=>by
  have i:Q3 x A:=by unfold Q3;rw[cJ];exact G
  have C:Row x (w.heap.size) (sJ (n:Int) S L T o F R U O (Y a E.length c)):=by rw[e];exact((LZ w _ _).alloc _).alloc _
  have J:Row x (w.heap.size+1) (dJ 0 0 0 0 0 0 0 0 0 0 (Y none 0 0) (Y none 0 0)):=by rw[e];exact(km (w:=w.alloc _) j).alloc _
  have K:Row x (w.heap.size+1+1) [Z (T+1),Z (1-o),Z (F+Q),Z L]:=by rw[e];exact km (w:=(w.alloc _).alloc _) j
  exact⟨C.I i,J.I i,K.I i⟩
 go_enter func165,ntmps165
 go_wp2_with (first|(go_at_call 47;refine(p.j _).J ?_;refine OF ?_)|(go_at_call 162;refine(g.j _).J ?_;refine OF ?_))
 rw[<-e];clear e;refine(v.j _).J ?_;rintro e w1 ⟨rfl,C⟩;go_wp2_with fail;refine(pi _ _ _).J ?_;rintro e H ⟨rfl,J⟩;have i:Below (w.heap.size+1+1+1) x H:=by rw[<-cJ];exact C.E (J.J C.size)
 have fI:w.heap.size+1+1+1<=H.heap.size:=by have:=i.size;omega
 clear C J v p g;have iW:w.heap.size<H.heap.size:=d
 obtain⟨P,_,_⟩:=bY.j _ i;have g:=P.y 9;clear P;go_wp2_with fail;clear g;have C:Below (w.heap.size+1+1+1) x (H.alloc (.cells #[Q1 false,Z r,Ow p0] 167)):=i.alloc fI _;refine(y.j _ (s.I (cV.j.E (C.J d)))).J ?_;rintro e w3 ⟨v,rfl,p,g⟩
 have J:w3.ownsRow (w.heap.size+1+1+1) 167 3 (Y (Hw H.heap.size 0) 1 1) 1 (LG (NE r (QA L (F+Q) n m (B.take 0)))):=by
  have M:=DH H (base:=w.heap.size+1+1+1) (e:=167) (size:=3) #[Q1 false,Z r,Ow p0] 1 fI (by unfold maxLen;omega) j;rw[FZ,oh,<-gM.j];have K:LG (NE r [p0])=[Q1 false,Z r,Ow p0]:=by simp[NE,LG]
  rw[K];exact MK M g
 have M:=Grow.start J;have eZ:(QA L (F+Q) n m (B.take 0)).length=1:=by rw[FZ,oh];rfl
 have kC:H.heap.size<w3.heap.size:=by have:=g.size;simp at this;omega
 have K:Below (w.heap.size+1+1+1) x w3:=C.E (g.J τ);have fZ:Hid (Bat w3 (H.heap.size+1) v B):=p.J j;obtain⟨va,vc,rfl,_⟩:=p.bts;clear p g C i J y;have fY:=LE K;have gF:=LE M;clear K M;go_wp2_with fail;go_loopw [6,8,9] (λy g i wr=>∃k:Nat,k<=B.length/\i=Z (k:Int)/\g=Z ((QA L (F+Q) n m (B.take k)).length:Int)/\Grow w3 wr (some H.heap.size) (w.heap.size+1+1+1) 167 3 y (QA L (F+Q) n m (B.take k)).length (LG (NE r (QA L (F+Q) n m (B.take k))))) (λ_ _ i _=>B.length-(intOf i).toNat)
 case atStart=>exact⟨0,AL,z,by rw[eZ];rfl,by rw[eZ];exact gF.j⟩
 case round =>
  obtain⟨k,hk,rfl,rfl,l⟩:=hrel;have bT:Below (w.heap.size+1+1+1) x wr:=fY.j.E (LK l.gb d (λk hk=>by cases hk;omega));have bU:w.heap.size+1+1+1<=wr.heap.size:=by have:=bT.size;omega
  have hN:((QA L (F+Q) n m (B.take k)).length:Int)<=99:=by have h1:=bW.j k;have h2:=bB.j k;omega
  obtain⟨y,aN⟩:=u (QA L (F+Q) n m (B.take k));rw[<-aN]at l hN⊢
  obtain⟨ya,yc,rfl⟩:∃ya yc,u6=Y ya y.length yc:=by
   rcases MS l.own with ⟨C,W⟩|⟨g,V,C,_⟩
   .exact⟨none,0,by rw[C,W]⟩
   exact⟨_,V,C⟩
  obtain⟨P,D,X⟩:=bY.j _ bT
  by_cases dV:k<B.length
  .have N:=fZ.j.kept l.gb (λk hk=>by cases hk;left;omega)
   obtain⟨lL,lN,ev,eR⟩:=N.bts
   cases ev
   obtain⟨gl,p,cc,rfl,iQ,M,K⟩:=eR.at dV;have iU:(k:Int)<(B.length:Int):=d
   have j7:(0:Int)<=(k:Int):=d
   have i:=gI.j (B.getD k []) (by simp[List.getD,dV]);have iJ:((QA L (F+Q) n m (B.take (k+1))).length:Int)<=99:=by have h1:=bW.j (k+1);have h2:=bB.j (k+1);omega
   have g:QA L (F+Q) n m (B.take (k+1))=y++PK (MN (B.getD k [])) L (F+Q+(y.length:Int)) n m:=by rw[ib B k [] dV,xd,<-aN]
   have hO:=iw (B.getD k []);obtain⟨b,G⟩:=u (B.getD k []);rw[<-G]at M K i g hO;have q:=LE (λW (hW:Chs W p b)=>jz p b cc W hW i.1 i.2);obtain⟨bo,h⟩:=u (MN b);rw[<-h]at q g hO;have C:=LE (λW=>Af bo L (F+Q+(y.length:Int)) n m W d hm fC fE);obtain⟨J,hcut⟩:=u (PK bo L (F+Q+(y.length:Int)) n m);rw[<-hcut]at C g;rw[g,AK]at iJ;have gQ:=LE g;have fV:=LE aN;have kF:IntKind.i64.wrap (F+Q+(y.length:Int))=F+Q+(y.length:Int):=by simp[IntKind.wrap,IntKind.bits,IntKind.signed];omega
   have V:Hid (∀A,Q3 wr A->A.cell? (Ki gl k)=some (Y p b.length cc)/\A.cell? (Ki w.heap.size 0)=some (Z (n:Int))/\A.cell? (Ki w.heap.size 2)=some (Z L)/\A.cell? (Ki (w.heap.size+1+1) 2)=some (Z (F+Q))/\Q3 wr A):=λA G=>⟨(G.cell (p:=(Ki gl k)) iQ).E M,(P.I G).y 0,(P.I G).y 2,(X.I G).y 2,G⟩
   have eH:=LE K;have I:=LE l;have cL:=LE bT;clear G h hcut g aN i K l bT P D X N M eR;go_wp2_with fail;refine AN (S:=λA=>A.cell? (Ki gl k)=some (Y p b.length cc)/\A.cell? (Ki w.heap.size 0)=some (Z (n:Int))/\A.cell? (Ki w.heap.size 2)=some (Z L)/\A.cell? (Ki (w.heap.size+1+1) 2)=some (Z (F+Q))/\Q3 wr A) κ (V.j _ (AB).drew) (λi=>?_);refine TY 0 (Y (Hw gl 0) B.length vc) z i (TY 1 (Z (k:Int)) z i (TY 2 (Dr gl k) z i (TY 3 (Y p b.length cc) z i (TY 5 (Dr w.heap.size 2) z i (TY 6 (Z L) z i (TY 7 (Dr (w.heap.size+1+1) 2) z i (TY 8 (Z (F+Q)) z i (TY 9 (Z (y.length:Int)) z i (TY 10 (Z (F+Q+(y.length:Int))) z i (TY 11 (Dr w.heap.size 0) z i (TY 12 (Z (n:Int)) z i ?_)))))))))))
   simp only[PS];refine RD 4 z (λK g=>?_);refine LM f 176 #[Y p b.length cc] γ (q.j _ (eH.j.I (AB).drew)) ?_;rintro e w4 ⟨rfl,cC⟩;refine⟨_,z,?_⟩;have W:Q3 wr w4:=(AB).drew.E cC;refine g.j _ _ (V.j _ W) (λbI=>?_);clear g K
   try simp only[PS]
   refine RD 13 z (λK g=>?_);refine LM f 175 #[Ow bo,Z L,Z (F+Q+(y.length:Int)),Z (n:Int)] γ (C.j _) ?_;rintro e h ⟨a5,c5,rfl,fG,eT,cE⟩;refine⟨_,z,?_⟩;have N:Q3 wr h:=W.E (cE.J W.size);refine g.j _ _ (V.j _ N) (λaU=>?_);clear g K
   try simp only[PS]
   refine RD 14 z (λK g=>?_);go_simp;refine g.j _ _ aU (λ_=>?_);clear g K
   try simp only[PS]
   refine DN ?_;have eG:=LE N;have gK:=LE fG
   have K:∀g,blk a5 J.length=some g->wr.heap.size<=g:=λg M=>AJ W.size (eT g M)
   have gE:=LE K;have cP:=N.size;clear N cE fG eT W cC K V q C eH i bI aU;generalize wr=wo at *;go_wp2_with fail;go_loopw [6,8,11] (λK u2 C wr=>∃i:Nat,i<=J.length/\C=Z (i:Int)/\u2=Z ((y++J.take i).length:Int)/\Grow h wr (Y ya y.length yc).ownBlock (w.heap.size+1+1+1) 167 3 K (y++J.take i).length (LG (NE r (y++J.take i)))) (λ_ _ C _=>J.length-(intOf C).toNat)
   case atStart=>exact⟨0,AL,z,j,by rw[FZ,FT];exact Grow.start (MK I.j.own eG.j)⟩
   case round =>
    obtain⟨i,hj,rfl,rfl,N⟩:=hrel;have eM:(y++J.take i).length=y.length+i:=by rw[AK,AZ];omega
    obtain⟨K,aK⟩:=u (y++J.take i);rw[<-aK]at N eM⊢
    obtain⟨fT,fU,rfl⟩:∃fT fU,u6=Y fT K.length fU:=by
     rcases MS N.own with ⟨C,W⟩|⟨g,V,C,_⟩
     .exact⟨none,0,by rw[C,W]⟩
     exact⟨_,V,C⟩
    have eF:wo.heap.size<=wr.heap.size:=AJ cP N.gb.size
    by_cases W:i<J.length
    .obtain⟨g5,rfl,q⟩:=gK.j.resolve_left (by intro e;have:=BD List.length e;simp at this;rw[this]at W;simp at W)
     have j5:wo.heap.size<=g5:=gE.j g5 (ND _ _ _ d);have C:=q.V N.gb (λe=>by have:=(I.j.own.lt g5 e.symm).2;omega);have iN:=C.cell i (Ow (J.getD i empty)) (by simp[W,List.getD]);obtain⟨pj,V⟩:=u (J.getD i empty);rw[<-V]at iN;have iO:=C.lt;have fA:(i:Int)<(J.length:Int):=d
     have j6:(0:Int)<=(i:Int):=d
     have kG:IntKind.i64.wrap (r+(K.length:Int))=r+(K.length:Int):=by simp[IntKind.wrap,IntKind.bits,IntKind.signed];omega
     have kH:IntKind.i64.wrap ((K.length:Int)+1)=(K.length:Int)+1:=by simp[IntKind.wrap,IntKind.bits,IntKind.signed];omega
     have cM:=LE N;have cQ:=LE aK;have gN:=LE V;have j2:K.length<=200:=d
     clear C q N aK V eM
     go_wp2_with (first|(go_at_call 167;refine(pi _ _ _).J ?_;rintro e V ⟨rfl,dN⟩;have cN:=LE ((MK cM.j.own dN).alloc (.cells #[Q1 false,Z (r+(K.length:Int)),Ow pj] 167));have kD:w.heap.size+1+1+1<=V.heap.size:=AJ (AJ bU eF) dN.size)|(at_builtin;refine SX _ z _ _ 113 z (w.heap.size+1+1+1) underlying113 HI.j z d _ K.length _ z cN.j (Ki V.heap.size 0) 1 1 [Q1 false,Z (r+(K.length:Int)),Ow pj] z z (World.news_of_block (AV V _)) (ef _ _ _) τ (V.heap.size+1) j ?_;intro q bH C aM aD aR dZ;have gL:=LE aM;have gH:=LE aD;have fX:=LE aR;clear aM aD aR))
     have fJ:y++J.take (i+1)=K++[pj]:=by rw[ib J i empty W,<-BY,<-cQ.j,<-gN.j]
     refine⟨⟨i+1,d,ν,by rw[fJ,AK];go_num,?_⟩,by simp[intOf];omega⟩;rw[fJ,pM,MA,AK];refine((cM.j.I dN).I (LH _ _)).push (H:=V.heap.size+1) gL.j gH.j ?_ j;rcases fX.j with s|s
     .exact .inl s
     right;rw[s];rfl
    have V:i=J.length:=d
    subst V;have cM:=LE N;have cQ:=LE aK;clear N aK;go_wp2_with fail;have C:K=QA L (F+Q) n m (B.take (k+1)):=by rw[cQ.j,gQ.j,DG]
    refine⟨⟨k+1,d,ν,by rw[<-C],?_⟩,by simp[intOf];omega⟩;rw[<-C];exact(I.j.I eG.j).E cM.j
  have iS:k=B.length:=d
  subst iS;have C:y=QA L (F+Q) n m B:=by rw[aN,DG]
  clear aN;have fW:=LE C;have I:=LE l;have cL:=LE bT
  have V:Hid (∀A,Below (w.heap.size+1+1+1) wr A->A.cell? (Ki w.heap.size 0)=some (Z (n:Int))/\A.cell? (Ki (w.heap.size+1+1) 0)=some (Z (T+1))/\A.cell? (Ki (w.heap.size+1+1) 1)=some (Z (1-o))/\A.cell? (Ki (w.heap.size+1+1) 2)=some (Z (F+Q))/\A.cell? (Ki (w.heap.size+1+1) 3)=some (Z L)):=λA G=>by
   obtain⟨P,D,X⟩:=bY.j _ (cL.j.E G);exact⟨P.y 0,X.y 0,X.y 1,X.y 2,X.y 3⟩
  have kE:(T+1).tmod 2=(T+1) % 2:=DQ d;clear l bT C P D X;go_wp2_with fail;refine AN (S:=λA=>A.cell? (Ki w.heap.size 0)=some (Z (n:Int))/\A.cell? (Ki (w.heap.size+1+1) 0)=some (Z (T+1))/\A.cell? (Ki (w.heap.size+1+1) 1)=some (Z (1-o))/\A.cell? (Ki (w.heap.size+1+1) 2)=some (Z (F+Q))/\A.cell? (Ki (w.heap.size+1+1) 3)=some (Z L)) κ (V.j _ (AB).drew) (λi=>?_);refine TY 0 (Y ya y.length yc) z i (TY 1 (.agg #[Q1 true,Z 0,Ow ⟨#[]⟩]) z i (TY 2 (Dr (w.heap.size+1+1) 0) z i (TY 3 (Z (T+1)) z i (TY 4 (Z ((T+1) % 2)) z i (TY 5 (.agg #[Z (T+1),Z (1-o),Z (F+Q),Z L]) z i (TY 6 (Dr w.heap.size 0) z i (TY 7 (Z (n:Int)) z i (TY 10 (.agg #[Q1 true,Z 0,Ow ⟨#[]⟩]) z i ?_))))))))
  simp only[PS];refine RD 8 z (λK g=>?_);refine LM f 236 #[OI (T+1) (1-o) (F+Q) L,Z (n:Int)] γ (eJ.j _) ?_;rintro e w4 ⟨rfl,cC⟩;refine⟨_,z,?_⟩;have W:Q3 wr w4:=(AB).drew.E cC;refine g.j _ _ (V.j _ (W.J bU)) (λbI=>?_);clear g K
  try simp only[PS]
  refine RD 9 z (λK g=>?_);refine LM f 167 #[Z ((T+1) % 2),Ow rp] γ (pi _ _ _) ?_;rintro e h ⟨rfl,cE⟩;refine⟨_,z,?_⟩;have N:Q3 wr h:=W.E (cE.J W.size);have cP:w.heap.size+1+1+1<=h.heap.size:=AJ bU N.size;have cN:=LE ((MK I.j.own N).alloc (.cells #[Q1 true,Z 0,Ow ⟨#[]⟩,Q1 false,Z ((T+1) % 2),Ow rp,Q1 true,Z 0,Ow ⟨#[]⟩] 167));refine g.j _ _ (V.j _ (N.J bU)) (λaU=>?_);clear g K
  try simp only[PS]
  refine RD 11 z (λK g=>?_);go_simp;refine g.j _ _ (V.j _ ((N.J bU).alloc cP _)) (λJ=>?_);clear g K
  try simp only[PS]
  refine RD 12 z (λK g=>?_);refine UG _ f _ _ _ f (w.heap.size+1+1+1) underlying113 HI.j z d (Y ya y.length yc) y.length _ f cN.j (Ki h.heap.size 0) 3 3 [Q1 true,Z 0,Ow ⟨#[]⟩,Q1 false,Z ((T+1) % 2),Ow rp,Q1 true,Z 0,Ow ⟨#[]⟩] f z (World.news_of_block (AV h _)) (Pa _ _ _ _ _ _ _ _ _) ξ (h.heap.size+1) j ?_;intro q bH C aM aD aR dZ;have A:=((I.j.I N).I (LH _ _)).push (H:=h.heap.size+1) aM aD (by rcases aR with s|s;exact .inl s;right;rw[s];rfl) j;have p:Below (w.heap.size+1+1+1) wr C:=((N.J bU).alloc cP _).E (LK aD τ (λk hk=>(I.j.own.lt k hk).1));have eI:=LE A;have l:=LE (cL.j.E p);clear aM aD aR A;refine g.j _ _ (V.j _ p) (λA=>?_);clear g K
  try simp only[PS]
  refine RD 13 z (λK g=>?_);go_simp;refine g.j _ _ A (λ_=>?_);clear g K
  try simp only[PS]
  refine DN ?_;clear p N cE W cC i bI aU J A cN I cL V;obtain⟨P,D,X⟩:=bY.j _ l.j;obtain⟨iY,iZ,i6,i7,i8,jA,jB,jC,jD,jE⟩:=P.k10;obtain⟨c10,jF,c12,jG,jH,jI,c16,jJ,jK,jL,gS,gU⟩:=D.k12;obtain⟨jO,jP,jQ,jR,jS,jT,f16,jU,jV,jW,iF,iG⟩:=D.z12;obtain⟨I,c21,jM,jN⟩:=X.k4;have iX:w.heap.size+1+1+1<=C.heap.size:=by have:=l.j.size;omega
  have j8:w.heap.size<C.heap.size:=d
  have j9:w.heap.size+1<C.heap.size:=d
  have kA:w.heap.size+1+1<C.heap.size:=d
  clear P D X;have N:=LE (l.j.alloc iX (.cells (sK (n:Int) S L (T+1) (1-o) (F+Q) L (y.length:Int) 0 (Y a E.length c)) 44))
  go_wp2_with (first|(go_at_call 108;refine(kl a E c _ (s.I (cV.j.E (N.j.J d))) hl).J ?_;rintro t p ⟨A,P,rfl,iM,W,V,J⟩;have i:=(LZ C (sK (n:Int) S L (T+1) (1-o) (F+Q) L (y.length:Int) 0 (Y a E.length c)) 44).I J;have g:=(bY.j _ (N.j.E (J.J τ))).2.1;have kK:p.cell? (Ki C.heap.size 0)=some (Z (n:Int)):=i.y 0;have kV:=i.A 0;have kL:p.cell? (Ki C.heap.size 1)=some (Z S):=i.y 1;have kX:=i.A 1;have kM:p.cell? (Ki C.heap.size 2)=some (Z L):=i.y 2;have kY:=i.A 2;have kO:p.cell? (Ki C.heap.size 3)=some (Z (T+1)):=i.y 3;have kZ:=i.A 3;have kP:p.cell? (Ki C.heap.size 4)=some (Z (1-o)):=i.y 4;have lA:=i.A 4;have kQ:p.cell? (Ki C.heap.size 5)=some (Z (F+Q)):=i.y 5;have lC:=i.A 5;have kR:p.cell? (Ki C.heap.size 6)=some (Z L):=i.y 6;have lF:=i.A 6;have kS:p.cell? (Ki C.heap.size 7)=some (Z (y.length:Int)):=i.y 7;have lH:=i.A 7;have kT:p.cell? (Ki C.heap.size 8)=some (Z 0):=i.y 8;have lI:=i.A 8;have kU:p.cell? (Ki C.heap.size 9)=some (Y a E.length c):=i.y 9;have lJ:=i.A 9;have gV:=g.y 0;have jX:=g.A 0;have gW:=g.y 1;have jY:=g.A 1;have gX:=g.y 2;have jZ:=g.A 2;have gY:=g.y 3;have j0:=g.A 3;have gZ:=g.y 4;have j1:=g.A 4;have iA:=g.y 5;have g15:=g.A 5;have iB:=g.y 6;have g16:=g.A 6;have iC:=g.y 7;have g17:=g.A 7;have iD:=g.y 8;have g18:=g.A 8;have iE:=g.y 9;have g19:=g.A 9;have D:=g.y 10;have iH:=g.A 10;have dF:=g.y 11;have iI:=g.A 11;have gJ:=LE W;have K:=LE V;have iT:C.heap.size<p.heap.size:=i.lt;have X:=LE (N.j.E (J.J τ));have gR:=LE J;clear i g W V J))
  have iP:=eI.j.own.lt q z
  have V:∀g,A=Hw g 0->LS E≠[]->C.heap.size<g:=λg M i=>by have:=K.j g (by subst M;exact ND _ _ _ (TS i));simp at this;omega
  have iK:ic A E.length (Hw q 0) (y.length+3):=by
   cases G:blk A E.length with
   | none=>exact .inl G
   | some g =>
    have:=K.j g G;simp at this;refine .inr (.inr λe=>?_);rw[G,ND _ _ _ d]at e
    cases e
    omega
  have W:Row p q (LG (NE r y++[(true,0,empty),(false,(T+1) % 2,rp),(true,0,empty)])):=by
   rw[MA];exact(UA eI.j.own).I (LH _ _ |>.E (gR.j.J j))
  rw[<-fW.j];have J:(NE r y++[(true,0,empty),(false,(T+1) % 2,rp),(true,0,empty)]).length=y.length+3:=by simp[TN]
  refine AE (v:=MT ⟨0,(n:Int),S,L,T+1,1-o,F+Q,L,(y.length:Int),0,E,NE r y++[(true,0,empty),(false,(T+1) % 2,rp),(true,0,empty)]⟩ A P (Hw q 0) bH) (by simp[results,results165,go_sem,MT,J,TN,gV,gW,gX,gY,gZ,iA,iB,iC,iD,iE,D,dF]) z ⟨A,P,_,bH,z,iM,⟨?_,?_,?_⟩,?_,?_,?_⟩
  .iterate 12(refine OwnS.set' ?_ _ (λg M i=>by have:=V g M i;show w.heap.size+1≠g;omega) _)
   exact OwnS.set' gJ.j _ (λg M i=>by have:=V g M i;show C.heap.size≠g;omega) _
  .refine .inr ⟨q,z,?_⟩
   iterate 12(refine Row.other ?_ _ (by show w.heap.size+1≠q;omega) _)
   exact W.other _ (by show C.heap.size≠q;omega) _
  .show ic _ _ _ (NE r y++_).length
   rw[J];exact iK
  .exactλg M=>by have:=K.j g M;simp at this;omega
  .exactλg M=>by change blk _ (NE r y++_).length=_ at M;rw[J,ND _ _ _ d]at M;cases M;omega
  iterate 12(refine GS ?_ (by show w.heap.size<=w.heap.size+1;omega) _)
  exact(cV.j.E (X.j.J d)).setCell (p:=(Ki C.heap.size 9)) (by show w.heap.size<=C.heap.size;omega) _
theorem Aj(W S L T b F R U O:Int)(a:Q5)(f:List Pr)(c:Nat)(w:Q9)(h:Prs w a f)(l:f.length<=1048576)(m:∀e∈f,e.1.size<=1048576/\e.2.size<=1048576)(g:bi W S L T b F f):Calls prog 165 #[NA W S L T b F R U O a f.length c] w λe i=>VZ w i e (PU W S L T b F f):=by
 unfold PU da
 by_cases e:T+1<=1000000000/\F+hv S<=999999000
 case pos =>
  rw[AM e];simp only[IV];obtain⟨p,_⟩:=id g;obtain⟨n,rfl⟩:∃n:Nat,W=(n:Int):=⟨W.toNat,d⟩;exact Io S L T b F R U O n (56-n) a f c w h l m d d d g e
 case neg =>
  rw[AH e];simp only[FD,JA];obtain⟨p,o,r,s,q,hF,_⟩:=g;have n:=QS o;have k:=LE (λi=>ZA S i);unfold NA;obtain⟨Q,i⟩:=x (hv S);rw[<-i.j]at n k e;clear h l m;go_enter func165,ntmps165
  go_wp2_with (first|(go_at_call 47;refine(k.j _).J ?_;refine OF ?_))
  all_goals
   refine H (v:=MT (LO 4) none 0 none 0) (by simp[results,results165,go_sem,MT,LO]) z (K7 z ?_);exact((LH _ _).alloc j _).alloc ξ _
