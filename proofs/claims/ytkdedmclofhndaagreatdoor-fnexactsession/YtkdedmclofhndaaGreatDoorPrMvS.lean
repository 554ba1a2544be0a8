import Derived.Test.YtkdedmclofhndaaGreatDoorPrG39
set_option maxHeartbeats 16000000
namespace Go.Proofs.YtkdedmclofhndaaGreatDoor
open _root_.ByteArray(empty)
open Tryz
open Go.RowKit
set_option linter.all false
set_option maxRecDepth 8000
theorem wD:(prog.info? 136).map (λi=>(i.zero,i.size,i.bytes))=some (some (.agg #[yR false,Z 0,yQ empty]),3,32):=κ
theorem Na(b c d:Bool)(e f g:Int)(h i j:yZ):∀u∈[yR b,Z e,yQ h,yR c,Z f,yQ i,yR d,Z g,yQ j],u.oneCell'=true:=by
 intro u a;simp only[DX,EW,IX]at a;rcases a with rfl|rfl|rfl|rfl|rfl|rfl|rfl|rfl|rfl<;>rfl
theorem sj(n h:Int)(i:0<=h)(j:h<=1)(w:xV):Calls prog 125 #[Z n,Z h] w λe a=>e=yT (Z (2+h*hv n))/\a=w:=by
 have c:0<=hv n/\hv n<=99:=by by_cases h:8<=n/\n<=200;have:=PG h;omega;rw[YH h];omega
 obtain⟨Q,b⟩:∃Q,Hid (Q=hv n):=⟨_,Y rfl⟩;rw[<-b.j]at c⊢;obtain⟨q,a⟩:∃q,q=h*Q:=⟨_,rfl⟩
 have d:0<=q/\q<=99:=by
  rcases(show h=0\/h=1 by omega) with e|e
  ·subst e;omega
  subst e;omega
 have f:IntKind.i64.wrap (h*Q)=q:=by rw[<-a];simp[IntKind.wrap,IntKind.bits,IntKind.signed];omega
 have g:IntKind.i64.wrap (2+q)=2+q:=by simp[IntKind.wrap,IntKind.bits,IntKind.signed];omega
 rw[<-a];clear a;go_enter func125,ntmps125;go_wp2_with (go_at_call 29;refine(VU _ _).J ?_;rw[<-b.j];refine NE ?_);go_ret;exact⟨rfl,rfl⟩
theorem it(n:Int)(d:yZ)(w:xV):Calls prog 130 #[Z n,yQ d] w λe a=>e=yT (.agg #[yR false,Z n,yQ d])/\yX w a:=by
 go_enter func130,ntmps130;go_wp2;refine AE (v:=.agg #[yR false,Z n,yQ d]) (by simp[results,results130,go_sem]) rfl ⟨rfl,LG _ _⟩
theorem Gh(S L T H F R U O:Int)(n m:Nat)(a:xA)(r:List Pr)(c:Nat)(w:xV)(h:Prs w a r)(hl:r.length<=1048576)(hs:∀x∈r,x.1.size<=1048576/\x.2.size<=1048576)(hm:n+m=56)(fC:1<=n)(fE:n<=8)(iV:XD (n:Int) S L T H F r)(cF:T+1<=1000000000/\F+hv S<=999999000):Calls prog 128 #[MI (n:Int) S L T H F R U O a r.length c] w λx d=>TJ w d x (WU (n:Int) S L T H F r):=by
 obtain⟨i0,b,e,f,g⟩:=WE wD;have HI:=Y (AG b (AG e (AG f g)));clear b e f g;obtain⟨hW,hS,hL,hT,hH,hF,g⟩:=iV;have hQ:=PG hS;have i:=Y (λd=>VU S d);have f:=Y (λd=>sj S (1-H) ω ω d);unfold WU MI;have o:(n:Int).toNat=n:=ω
 have J:56-n=m:=ω
 rw[o,J];obtain⟨Q,HQ⟩:∃Q,Hid (Q=hv S):=⟨_,Y rfl⟩;rw[<-HQ.j]at hQ i f g cF⊢;obtain⟨q,b⟩:∃q,q=2+(1-H)*Q:=⟨_,rfl⟩
 have kB:2<=q/\q<=101:=by
  rcases(show H=0\/H=1 by omega) with e|e
  ·subst e;omega
  subst e;omega
 rw[<-b]at f⊢;clear b o J;obtain⟨j3,j4⟩:=cF;obtain⟨l,e⟩:∃l,l=MK r:=⟨_,rfl⟩;have iL:=ZC r
 have gI:Hid (∀b∈l,b.length<=1048576/\∀x∈b,x.1.size<=1048576/\x.2.1.size<=1048576):=by
  intro b s;rw[e]at s;obtain⟨h1,h2⟩:=mg s;exact⟨ω,λx j=>hs _ (h2 x j)⟩
 have o:=Y (λd j=>tJ a r c d j hl hs);have bW:=Y (λk=>gq L (F+Q) n m hm fC fE (l.take k))
 have bB:Hid (∀k,MG (l.take k) (n:Int)<=Q-1):=λk=>by
  have:=sR l k (n:Int);rw[<-e]at g;omega
 rw[<-e]at iL o⊢;clear e g;obtain⟨M,e⟩:∃M,M=OS (T+1) (1-H) (F+Q) L (n:Int):=⟨_,rfl⟩;have eJ:=Y (λd=>uG (T+1) (1-H) (F+Q) L (n:Int) d);rw[<-e]at eJ⊢;clear e;obtain⟨p0,e⟩:∃p0,p0=MJ 3 L (F+Q) empty (n:Int):=⟨_,rfl⟩;have j:=Y (λd=>au 3 L (F+Q) empty (n:Int) d σ);rw[<-e]at j;have gM:=Y e;clear e;obtain⟨z,e⟩:∃z,z=((w.alloc (.cells (sK (n:Int) S L T H F R U O (yI a r.length c)) 39)).alloc (.cells (dK 0 0 0 0 0 0 0 0 0 0 (yI none 0 0) (yI none 0 0)) 102)).alloc (.cells #[Z (T+1),Z (1-H),Z (F+Q),Z L] 34):=⟨_,rfl⟩;have cJ:z.heap.size=w.heap.size+1+1+1:=by rw[e];simp
 have cV:Hid (yX w z):=by show Below _ _ _;rw[e];exact((LG _ _).alloc σ _).alloc ξ _
 have bY:Hid (∀d,Below (w.heap.size+1+1+1) z d->Row d (w.heap.size) (sJ (n:Int) S L T H F R U O (yI a r.length c))/\Row d (w.heap.size+1) (dJ 0 0 0 0 0 0 0 0 0 0 (yI none 0 0) (yI none 0 0))/\Row d (w.heap.size+1+1) [Z (T+1),Z (1-H),Z (F+Q),Z L]):=λd s=>by
  have g:yX z d:=by show Below (z.heap.size) z d;rw[cJ];exact s
  have p:Row z (w.heap.size) (sJ (n:Int) S L T H F R U O (yI a r.length c)):=by rw[e];exact((LS w _ _).alloc _).alloc _
  have t:Row z (w.heap.size+1) (dJ 0 0 0 0 0 0 0 0 0 0 (yI none 0 0) (yI none 0 0)):=by rw[e];exact(dq (w:=w.alloc _) σ).alloc _
  have u:Row z (w.heap.size+1+1) [Z (T+1),Z (1-H),Z (F+Q),Z L]:=by rw[e];exact dq (w:=(w.alloc _).alloc _) σ
  exact⟨p.I g,t.I g,u.I g⟩
 go_enter func128,ntmps128
 go_wp2_with (first|(go_at_call 29;refine(i.j _).J ?_;refine NE ?_)|(go_at_call 125;refine(f.j _).J ?_;refine NE ?_))
 rw[<-e];clear e;refine(j.j _).J ?_;rintro e w1 ⟨rfl,p⟩;go_wp2_with fail;refine(it _ _ _).J ?_;rintro e D ⟨rfl,t⟩;have g:Below (w.heap.size+1+1+1) z D:=by rw[<-cJ];exact p.E (t.J p.size)
 have fI:w.heap.size+1+1+1<=D.heap.size:=by have:=g.size;omega
 clear p t j i f;have iW:w.heap.size<D.heap.size:=ω
 obtain⟨y,_,_⟩:=bY.j _ g;have f:=y.y 9;clear y;go_wp2_with fail;clear f;have j:Below (w.heap.size+1+1+1) z (D.alloc (.cells #[yR false,Z q,yQ p0] 136)):=g.alloc fI _;refine(o.j _ (h.I (cV.j.E (j.J ω)))).J ?_;rintro e w3 ⟨v,rfl,i,f⟩
 have p:w3.ownsRow (w.heap.size+1+1+1) 136 3 (yI (zY D.heap.size 0) 1 1) 1 (Or (MM q (ON L (F+Q) n m (l.take 0)))):=by
  have u:=DG D (base:=w.heap.size+1+1+1) (e:=136) (size:=3) #[yR false,Z q,yQ p0] 1 fI (by unfold maxLen;omega) σ;rw[FV,il,<-gM.j];have t:Or (MM q [p0])=[yR false,Z q,yQ p0]:=by simp[MM,Or]
  rw[t];exact LZ u f
 have u:=Grow.start p;have eZ:(ON L (F+Q) n m (l.take 0)).length=1:=by rw[FV,il];rfl
 have kC:D.heap.size<w3.heap.size:=by have:=f.size;simp at this;omega
 have t:Below (w.heap.size+1+1+1) z w3:=j.E (f.J τ);have fZ:Hid (Bat w3 (D.heap.size+1) v l):=i.J σ;obtain⟨va,vc,rfl,_⟩:=i.bts;clear i f j g p o;have fY:=Y t;have gF:=Y u;clear t u;go_wp2_with fail;go_loopw [6,8,9] (λy u i wr=>∃k:Nat,k<=l.length/\i=Z (k:Int)/\u=Z ((ON L (F+Q) n m (l.take k)).length:Int)/\Grow w3 wr (some D.heap.size) (w.heap.size+1+1+1) 136 3 y (ON L (F+Q) n m (l.take k)).length (Or (MM q (ON L (F+Q) n m (l.take k))))) (λ_ _ i _=>l.length-(intOf i).toNat)
 case atStart=>exact⟨0,AL _,rfl,by rw[eZ];rfl,by rw[eZ];exact gF.j⟩
 case round =>
  obtain⟨k,hk,rfl,rfl,I⟩:=hrel;have X:Below (w.heap.size+1+1+1) z wr:=fY.j.E (Ow I.gb ω (λk hk=>by cases hk;omega));have bU:w.heap.size+1+1+1<=wr.heap.size:=by have:=X.size;omega
  have hN:((ON L (F+Q) n m (l.take k)).length:Int)<=99:=by have h1:=bW.j k;have h2:=bB.j k;omega
  obtain⟨f,V⟩:∃f,f=ON L (F+Q) n m (l.take k):=⟨_,rfl⟩;rw[<-V]at I hN⊢
  obtain⟨ya,yc,rfl⟩:∃ya yc,u6=yI ya f.length yc:=by
   rcases MC I.own with ⟨o,J⟩|⟨g,C,o,_⟩
   ·exact⟨none,0,by rw[o,J]⟩
   exact⟨_,C,o⟩
  obtain⟨y,N,B⟩:=bY.j _ X
  by_cases dV:k<l.length
  ·have C:=fZ.j.kept I.gb (λk hk=>by cases hk;left;omega)
   obtain⟨lK,lL,ev,K⟩:=C.bts
   cases ev
   obtain⟨gl,p,cc,rfl,iQ,u,j⟩:=K.at dV;have iU:(k:Int)<(l.length:Int):=ω
   have j7:(0:Int)<=(k:Int):=ω
   have i:=gI.j (l.getD k []) (by simp[List.getD,dV]);have iJ:((ON L (F+Q) n m (l.take (k+1))).length:Int)<=99:=by have h1:=bW.j (k+1);have h2:=bB.j (k+1);omega
   have g:ON L (F+Q) n m (l.take (k+1))=f++OC (MA (l.getD k [])) L (F+Q+(f.length:Int)) n m:=by rw[ZR l k [] dV,qy,<-V]
   have hO:=ac (l.getD k []);obtain⟨b,s⟩:∃b,b=l.getD k []:=⟨_,rfl⟩;rw[<-s]at u j i g hO;have J:=Y (λW (hW:Chs W p b)=>cw p b cc W hW i.1 i.2);obtain⟨bo,E⟩:∃bo,bo=MA b:=⟨_,rfl⟩;rw[<-E]at J g hO;have o:=Y (λW=>xG bo L (F+Q+(f.length:Int)) n m W ω hm fC fE);obtain⟨t,hcut⟩:∃t,t=OC bo L (F+Q+(f.length:Int)) n m:=⟨_,rfl⟩;rw[<-hcut]at o g;rw[g,AK]at iJ;have gQ:=Y g;have fV:=Y V;have kF:IntKind.i64.wrap (F+Q+(f.length:Int))=F+Q+(f.length:Int):=by simp[IntKind.wrap,IntKind.bits,IntKind.signed];omega
   have A:Hid (∀d,yX wr d->d.cell? (yA gl k)=some (yI p b.length cc)/\d.cell? (yA w.heap.size 0)=some (Z (n:Int))/\d.cell? (yA w.heap.size 2)=some (Z L)/\d.cell? (yA (w.heap.size+1+1) 2)=some (Z (F+Q))/\yX wr d):=λd s=>⟨(s.cell (p:=(yA gl k)) iQ).E u,(y.I s).y 0,(y.I s).y 2,(B.I s).y 2,s⟩
   have P:=Y j;have G:=Y I;have cL:=Y X;clear s E hcut g V i j I X y N B C u K;go_wp2_with fail;refine AN (S:=λd=>d.cell? (yA gl k)=some (yI p b.length cc)/\d.cell? (yA w.heap.size 0)=some (Z (n:Int))/\d.cell? (yA w.heap.size 2)=some (Z L)/\d.cell? (yA (w.heap.size+1+1) 2)=some (Z (F+Q))/\yX wr d) κ (A.j _ (AB _ _).drew) (λi=>?_);refine TY 0 (yI (zY gl 0) l.length vc) rfl i (TY 1 (Z (k:Int)) rfl i (TY 2 (zW gl k) rfl i (TY 3 (yI p b.length cc) rfl i (TY 5 (zW w.heap.size 2) rfl i (TY 6 (Z L) rfl i (TY 7 (zW (w.heap.size+1+1) 2) rfl i (TY 8 (Z (F+Q)) rfl i (TY 9 (Z (f.length:Int)) rfl i (TY 10 (Z (F+Q+(f.length:Int))) rfl i (TY 11 (zW w.heap.size 0) rfl i (TY 12 (Z (n:Int)) rfl i ?_)))))))))))
   simp only[PS];refine RD 4 rfl (λK g=>?_);refine LI ρ 139 #[yI p b.length cc] γ (J.j _ (P.j.I (AB _ _).drew)) ?_;rintro e w4 ⟨rfl,cC⟩;refine⟨_,rfl,?_⟩;have C:yX wr w4:=(AB _ _).drew.E cC;refine g.j _ _ (A.j _ C) (λbI=>?_);clear g K
   try simp only[PS]
   refine RD 13 rfl (λK g=>?_);refine LI ρ 138 #[yQ bo,Z L,Z (F+Q+(f.length:Int)),Z (n:Int)] γ (o.j _) ?_;rintro e E ⟨a5,c5,rfl,fG,W,cE⟩;refine⟨_,rfl,?_⟩;have j:yX wr E:=C.E (cE.J C.size);refine g.j _ _ (A.j _ j) (λaU=>?_);clear g K
   try simp only[PS]
   refine RD 14 rfl (λK g=>?_);go_simp;refine g.j _ _ aU (λ_=>?_);clear g K
   try simp only[PS]
   refine DN ?_;have eG:=Y j;have gK:=Y fG
   have K:∀g,blk a5 t.length=some g->wr.heap.size<=g:=λg u=>AJ C.size (W g u)
   have gE:=Y K;have cP:=j.size;clear j cE fG W C cC K A J o P i bI aU;generalize wr=wo at *;go_wp2_with fail;go_loopw [6,8,11] (λo u2 i wr=>∃j:Nat,j<=t.length/\i=Z (j:Int)/\u2=Z ((f++t.take j).length:Int)/\Grow E wr (yI ya f.length yc).ownBlock (w.heap.size+1+1+1) 136 3 o (f++t.take j).length (Or (MM q (f++t.take j)))) (λ_ _ i _=>t.length-(intOf i).toNat)
   case atStart=>exact⟨0,AL _,rfl,σ,by rw[FV,FQ];exact Grow.start (LZ G.j.own eG.j)⟩
   case round =>
    obtain⟨j,hj,rfl,rfl,A⟩:=hrel;have eM:(f++t.take j).length=f.length+j:=by rw[AK,AX];omega
    obtain⟨i,K⟩:∃i,i=f++t.take j:=⟨_,rfl⟩;rw[<-K]at A eM⊢
    obtain⟨fT,fU,rfl⟩:∃fT fU,u6=yI fT i.length fU:=by
     rcases MC A.own with ⟨o,J⟩|⟨g,C,o,_⟩
     ·exact⟨none,0,by rw[o,J]⟩
     exact⟨_,C,o⟩
    have eF:wo.heap.size<=wr.heap.size:=AJ cP A.gb.size
    by_cases aX:j<t.length
    ·obtain⟨g5,rfl,P⟩:=gK.j.resolve_left (by intro e;have:=BC List.length e;simp at this;rw[this]at aX;simp at aX)
     have j5:wo.heap.size<=g5:=gE.j g5 (ML _ _ _ ω);have o:=P.V A.gb (λe=>by have:=(G.j.own.lt g5 e.symm).2;omega);have iN:=o.cell j (yQ (t.getD j empty)) (by simp[aX,List.getD]);obtain⟨C,J⟩:∃C,C=t.getD j empty:=⟨_,rfl⟩;rw[<-J]at iN;have iO:=o.lt;have fA:(j:Int)<(t.length:Int):=ω
     have j6:(0:Int)<=(j:Int):=ω
     have kG:IntKind.i64.wrap (q+(i.length:Int))=q+(i.length:Int):=by simp[IntKind.wrap,IntKind.bits,IntKind.signed];omega
     have kH:IntKind.i64.wrap ((i.length:Int)+1)=(i.length:Int)+1:=by simp[IntKind.wrap,IntKind.bits,IntKind.signed];omega
     have cM:=Y A;have cQ:=Y K;have gN:=Y J;have j2:i.length<=200:=ω
     clear o P A K J eM
     go_wp2_with (first|(go_at_call 130;refine(it _ _ _).J ?_;rintro e w6 ⟨rfl,dN⟩;have cN:=Y ((LZ cM.j.own dN).alloc (.cells #[yR false,Z (q+(i.length:Int)),yQ C] 136));have kD:w.heap.size+1+1+1<=w6.heap.size:=AJ (AJ bU eF) dN.size)|(at_builtin;refine QS _ rfl _ _ 100 rfl (w.heap.size+1+1+1) underlying100 HI.j rfl ω _ i.length _ rfl cN.j (yA w6.heap.size 0) 1 1 [yR false,Z (q+(i.length:Int)),yQ C] rfl rfl (World.news_of_block (AU w6 _)) (YF _ _ _) τ (w6.heap.size+1) σ ?_;intro J bH o W P aR dZ;have gL:=Y W;have gH:=Y P;have fX:=Y aR;clear W P aR))
     have P:f++t.take (j+1)=i++[C]:=by rw[ZR t j empty aX,<-BV,<-cQ.j,<-gN.j]
     refine⟨⟨j+1,ω,ν,by rw[P,AK];go_num,?_⟩,by simp[intOf];omega⟩;rw[P,zy,O8,AK];refine((cM.j.I dN).I (LG _ _)).push (H:=w6.heap.size+1) gL.j gH.j ?_ σ;rcases fX.j with h|h
     ·exact .inl h
     right;rw[h];rfl
    have C:j=t.length:=ω
    subst C;have cM:=Y A;have cQ:=Y K;clear A K;go_wp2_with fail;have o:i=ON L (F+Q) n m (l.take (k+1)):=by rw[cQ.j,gQ.j,DF]
    refine⟨⟨k+1,ω,ν,by rw[<-o],?_⟩,by simp[intOf];omega⟩;rw[<-o];exact(G.j.I eG.j).E cM.j
  have iS:k=l.length:=ω
  subst iS;have o:f=ON L (F+Q) n m l:=by rw[V,DF]
  clear V;have fW:=Y o;have G:=Y I;have cL:=Y X
  have A:Hid (∀d,Below (w.heap.size+1+1+1) wr d->d.cell? (yA w.heap.size 0)=some (Z (n:Int))/\d.cell? (yA (w.heap.size+1+1) 0)=some (Z (T+1))/\d.cell? (yA (w.heap.size+1+1) 1)=some (Z (1-H))/\d.cell? (yA (w.heap.size+1+1) 2)=some (Z (F+Q))/\d.cell? (yA (w.heap.size+1+1) 3)=some (Z L)):=λd s=>by
   obtain⟨y,N,B⟩:=bY.j _ (cL.j.E s);exact⟨y.y 0,B.y 0,B.y 1,B.y 2,B.y 3⟩
  have kE:(T+1).tmod 2=(T+1) % 2:=GF ω;clear I X o y N B;go_wp2_with fail;refine AN (S:=λd=>d.cell? (yA w.heap.size 0)=some (Z (n:Int))/\d.cell? (yA (w.heap.size+1+1) 0)=some (Z (T+1))/\d.cell? (yA (w.heap.size+1+1) 1)=some (Z (1-H))/\d.cell? (yA (w.heap.size+1+1) 2)=some (Z (F+Q))/\d.cell? (yA (w.heap.size+1+1) 3)=some (Z L)) κ (A.j _ (AB _ _).drew) (λi=>?_);refine TY 0 (yI ya f.length yc) rfl i (TY 1 (.agg #[yR true,Z 0,yQ ⟨#[]⟩]) rfl i (TY 2 (zW (w.heap.size+1+1) 0) rfl i (TY 3 (Z (T+1)) rfl i (TY 4 (Z ((T+1) % 2)) rfl i (TY 5 (.agg #[Z (T+1),Z (1-H),Z (F+Q),Z L]) rfl i (TY 6 (zW w.heap.size 0) rfl i (TY 7 (Z (n:Int)) rfl i (TY 10 (.agg #[yR true,Z 0,yQ ⟨#[]⟩]) rfl i ?_))))))))
  simp only[PS];refine RD 8 rfl (λK g=>?_);refine LI ρ 183 #[NI (T+1) (1-H) (F+Q) L,Z (n:Int)] γ (eJ.j _) ?_;rintro e w4 ⟨rfl,cC⟩;refine⟨_,rfl,?_⟩;have C:yX wr w4:=(AB _ _).drew.E cC;refine g.j _ _ (A.j _ (C.J bU)) (λbI=>?_);clear g K
  try simp only[PS]
  refine RD 9 rfl (λK g=>?_);refine LI ρ 130 #[Z ((T+1) % 2),yQ M] γ (it _ _ _) ?_;rintro e E ⟨rfl,cE⟩;refine⟨_,rfl,?_⟩;have j:yX wr E:=C.E (cE.J C.size);have cP:w.heap.size+1+1+1<=E.heap.size:=AJ bU j.size;have cN:=Y ((LZ G.j.own j).alloc (.cells #[yR true,Z 0,yQ ⟨#[]⟩,yR false,Z ((T+1) % 2),yQ M,yR true,Z 0,yQ ⟨#[]⟩] 136));refine g.j _ _ (A.j _ (j.J bU)) (λaU=>?_);clear g K
  try simp only[PS]
  refine RD 11 rfl (λK g=>?_);go_simp;refine g.j _ _ (A.j _ ((j.J bU).alloc cP _)) (λy=>?_);clear g K
  try simp only[PS]
  refine RD 12 rfl (λK g=>?_);refine RP _ ρ _ _ _ ρ (w.heap.size+1+1+1) underlying100 HI.j rfl ω (yI ya f.length yc) f.length _ ρ cN.j (yA E.heap.size 0) 3 3 [yR true,Z 0,yQ ⟨#[]⟩,yR false,Z ((T+1) % 2),yQ M,yR true,Z 0,yQ ⟨#[]⟩] ρ rfl (World.news_of_block (AU E _)) (Na _ _ _ _ _ _ _ _ _) ξ (E.heap.size+1) σ ?_;intro J bH o W P aR dZ;have p:=((G.j.I j).I (LG _ _)).push (H:=E.heap.size+1) W P (by rcases aR with h|h;exact .inl h;right;rw[h];rfl) σ;have d:Below (w.heap.size+1+1+1) wr o:=((j.J bU).alloc cP _).E (Ow P τ (λk hk=>(G.j.own.lt k hk).1));have I:=Y p;have t:=Y (cL.j.E d);clear W P aR p;refine g.j _ _ (A.j _ d) (λp=>?_);clear g K
  try simp only[PS]
  refine RD 13 rfl (λK g=>?_);go_simp;refine g.j _ _ p (λ_=>?_);clear g K
  try simp only[PS]
  refine DN ?_;clear d j cE C cC i bI aU y p cN G cL A;obtain⟨y,N,B⟩:=bY.j _ t.j;obtain⟨iY,iZ,i6,i7,i8,jA,jB,jC,jD,jE⟩:=y.k10;obtain⟨c10,jF,c12,jG,jH,jI,c16,jJ,jK,jL,gS,gU⟩:=N.k12;obtain⟨jO,jP,jQ,jR,jS,jT,f16,jU,jV,jW,iF,iG⟩:=N.z12;obtain⟨K,P,jM,jN⟩:=B.k4;have iX:w.heap.size+1+1+1<=o.heap.size:=by have:=t.j.size;omega
  have j8:w.heap.size<o.heap.size:=ω
  have j9:w.heap.size+1<o.heap.size:=ω
  have kA:w.heap.size+1+1<o.heap.size:=ω
  clear y N B;have A:=Y (t.j.alloc iX (.cells (sK (n:Int) S L (T+1) (1-H) (F+Q) L (f.length:Int) 0 (yI a r.length c)) 39))
  go_wp2_with (first|(go_at_call 84;refine(dp a r c _ (h.I (cV.j.E (A.j.J ω))) hl).J ?_;rintro x i ⟨j,B,rfl,iM,G,C,p⟩;have g:=(LS o (sK (n:Int) S L (T+1) (1-H) (F+Q) L (f.length:Int) 0 (yI a r.length c)) 39).I p;have d:=(bY.j _ (A.j.E (p.J τ))).2.1;have kK:i.cell? (yA o.heap.size 0)=some (Z (n:Int)):=g.y 0;have kV:=g.A 0;have kL:i.cell? (yA o.heap.size 1)=some (Z S):=g.y 1;have kX:=g.A 1;have kM:i.cell? (yA o.heap.size 2)=some (Z L):=g.y 2;have kY:=g.A 2;have kO:i.cell? (yA o.heap.size 3)=some (Z (T+1)):=g.y 3;have kZ:=g.A 3;have kP:i.cell? (yA o.heap.size 4)=some (Z (1-H)):=g.y 4;have lA:=g.A 4;have kQ:i.cell? (yA o.heap.size 5)=some (Z (F+Q)):=g.y 5;have lC:=g.A 5;have kR:i.cell? (yA o.heap.size 6)=some (Z L):=g.y 6;have lF:=g.A 6;have kS:i.cell? (yA o.heap.size 7)=some (Z (f.length:Int)):=g.y 7;have lH:=g.A 7;have kT:i.cell? (yA o.heap.size 8)=some (Z 0):=g.y 8;have lI:=g.A 8;have kU:i.cell? (yA o.heap.size 9)=some (yI a r.length c):=g.y 9;have lJ:=g.A 9;have gV:=d.y 0;have jX:=d.A 0;have gW:=d.y 1;have jY:=d.A 1;have gX:=d.y 2;have jZ:=d.A 2;have gY:=d.y 3;have j0:=d.A 3;have gZ:=d.y 4;have j1:=d.A 4;have iA:=d.y 5;have X:=d.A 5;have iB:=d.y 6;have g16:=d.A 6;have iC:=d.y 7;have g17:=d.A 7;have iD:=d.y 8;have g18:=d.A 8;have iE:=d.y 9;have g19:=d.A 9;have V:=d.y 10;have iH:=d.A 10;have W:=d.y 11;have iI:=d.A 11;have gJ:=Y G;have y:=Y C;have iT:o.heap.size<i.heap.size:=g.lt;have N:=Y (A.j.E (p.J τ));have gR:=Y p;clear g d G C p))
  have iP:=I.j.own.lt J rfl
  have C:∀g,j=zY g 0->LN r≠[]->o.heap.size<g:=λg u d=>by have:=y.j g (by subst u;exact ML _ _ _ (RG d));simp at this;omega
  have iK:ZS j r.length (zY J 0) (f.length+3):=by
   cases s:blk j r.length with
   | none=>exact .inl s
   | some g =>
    have:=y.j g s;simp at this;refine .inr (.inr λe=>?_);rw[s,ML _ _ _ ω]at e
    cases e
    omega
  have G:Row i J (Or (MM q f++[(true,0,empty),(false,(T+1) % 2,M),(true,0,empty)])):=by
   rw[O8];exact(RJ I.j.own).I (LG _ _ |>.E (gR.j.J σ))
  rw[<-fW.j];have p:(MM q f++[(true,0,empty),(false,(T+1) % 2,M),(true,0,empty)]).length=f.length+3:=by simp[QZ]
  refine AE (v:=MD ⟨0,(n:Int),S,L,T+1,1-H,F+Q,L,(f.length:Int),0,r,MM q f++[(true,0,empty),(false,(T+1) % 2,M),(true,0,empty)]⟩ j B (zY J 0) bH) (by simp[results,results128,go_sem,MD,p,QZ,gV,gW,gX,gY,gZ,iA,iB,iC,iD,iE,V,W]) rfl ⟨j,B,_,bH,rfl,iM,⟨?_,?_,?_⟩,?_,?_,?_⟩
  ·iterate 12(refine OwnS.set' ?_ _ (λg u d=>by have:=C g u d;show w.heap.size+1≠g;omega) _)
   exact OwnS.set' gJ.j _ (λg u d=>by have:=C g u d;show o.heap.size≠g;omega) _
  ·refine .inr ⟨J,rfl,?_⟩
   iterate 12(refine Row.other ?_ _ (by show w.heap.size+1≠J;omega) _)
   exact G.other _ (by show o.heap.size≠J;omega) _
  ·show ZS _ _ _ (MM q f++_).length
   rw[p];exact iK
  ·exactλg u=>by have:=y.j g u;simp at this;omega
  ·exactλg u=>by change blk _ (MM q f++_).length=_ at u;rw[p,ML _ _ _ ω]at u;cases u;omega
  iterate 12(refine GR ?_ (by show w.heap.size<=w.heap.size+1;omega) _)
  exact(cV.j.E (N.j.J ω)).setCell (p:=(yA o.heap.size 9)) (by show w.heap.size<=o.heap.size;omega) _
theorem xK(W S L T H F R U O:Int)(a:xA)(b:List Pr)(c:Nat)(w:xV)(h:Prs w a b)(i:b.length<=1048576)(j:∀x∈b,x.1.size<=1048576/\x.2.size<=1048576)(e:XD W S L T H F b):Calls prog 128 #[MI W S L T H F R U O a b.length c] w λx f=>TJ w f x (OH W S L T H F b):=by
 unfold OH XO
 by_cases d:T+1<=1000000000/\F+hv S<=999999000
 case pos =>
  rw[AM d];simp only[IU];obtain⟨m,_⟩:=id e;obtain⟨n,rfl⟩:∃n:Nat,W=(n:Int):=⟨W.toNat,ω⟩;exact Gh S L T H F R U O n (56-n) a b c w h i j ω ω ω e d
 case neg =>
  rw[AH d];simp only[FA,JA];obtain⟨m,l,o,p,n,hF,_⟩:=e;have k:=PG l;have g:=Y (λf=>VU S f);unfold MI;obtain⟨Q,f⟩:∃Q,Hid (Q=hv S):=⟨_,Y rfl⟩;rw[<-f.j]at k g d;clear h i j;go_enter func128,ntmps128
  go_wp2_with (first|(go_at_call 29;refine(g.j _).J ?_;refine NE ?_))
  all_goals
   refine AE (v:=MD (LJ 4) none 0 none 0) (by simp[results,results128,go_sem,MD,LJ]) rfl (Jd rfl ?_);exact((LG _ _).alloc σ _).alloc ξ _
