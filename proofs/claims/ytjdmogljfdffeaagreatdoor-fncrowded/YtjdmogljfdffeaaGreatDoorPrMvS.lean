import Derived.Test.YtjdmogljfdffeaaGreatDoorPrG31
set_option maxHeartbeats 16000000
namespace Go.Proofs.YtjdmogljfdffeaaGreatDoor
open _root_.ByteArray(empty)
open Tryz
open Go.RowKit
set_option linter.all false
set_option maxRecDepth 8000
theorem tL:(prog.info? 78).map (λi=>(i.zero,i.size,i.bytes))=some (some (.agg #[.bool false,.int .i64 0,.string empty]),3,32):=κ
theorem Ij(b c d:Bool)(e f g:Int)(h i j:ByteArray):∀u∈[Value.bool b,.int .i64 e,.string h,.bool c,.int .i64 f,.string i,.bool d,.int .i64 g,.string j],u.oneCell'=true:=by
 intro u a;simp only[DX,EE,GR]at a;rcases a with rfl|rfl|rfl|rfl|rfl|rfl|rfl|rfl|rfl<;>rfl
theorem ro(n h:Int)(i:0<=h)(j:h<=1)(w:World):Calls prog 27 #[.int .i64 n,.int .i64 h] w λe a=>e=.returned (.int .i64 (2+h*hv n))/\a=w:=by
 have c:0<=hv n/\hv n<=99:=by by_cases h:8<=n/\n<=200;have:=PJ h;omega;rw[YQ h];omega
 obtain⟨Q,b⟩:∃Q,Hid (Q=hv n):=⟨_,Z rfl⟩;rw[<-b.l]at c⊢;obtain⟨q,a⟩:∃q,q=h*Q:=⟨_,rfl⟩
 have d:0<=q/\q<=99:=by
  rcases(show h=0\/h=1 by omega) with e|e
  ·subst e;omega
  subst e;omega
 have f:IntKind.i64.wrap (h*Q)=q:=by rw[<-a];simp[IntKind.wrap,IntKind.bits,IntKind.signed];omega
 have g:IntKind.i64.wrap (2+q)=2+q:=by simp[IntKind.wrap,IntKind.bits,IntKind.signed];omega
 rw[<-a];clear a;go_enter func27,ntmps27;go_wp2_with (go_at_call 22;refine(XD _ _).A ?_;rw[<-b.l];refine NC ?_);go_ret;exact⟨rfl,rfl⟩
theorem iw(n:Int)(d:ByteArray)(w:World):Calls prog 26 #[.int .i64 n,.string d] w λe a=>e=.returned (.agg #[.bool false,.int .i64 n,.string d])/\Below w.heap.size w a:=by
 go_enter func26,ntmps26;go_wp2;refine AI (v:=.agg #[.bool false,.int .i64 n,.string d]) (by simp[results,results26,go_sem]) rfl ⟨rfl,KW _ _⟩
theorem Bx(S L T H F R U O:Int)(n m:Nat)(a:Option Addr)(r:List Pr)(c:Nat)(w:World)(h:Prs w a r)(hl:r.length<=1048576)(hs:∀x∈r,x.1.size<=1048576/\x.2.size<=1048576)(hm:n+m=56)(fS:1<=n)(fT:n<=8)(i5:XN (n:Int) S L T H F r)(cO:T+1<=1000000000/\F+hv S<=999999000):Calls prog 184 #[MM (n:Int) S L T H F R U O a r.length c] w λx d=>TR w d x (TN (n:Int) S L T H F r):=by
 obtain⟨i0,b,e,f,g⟩:=WP tL;have HI:=Z (AH b (AH e (AH f g)));clear b e f g;obtain⟨hW,hS,hL,hT,hH,hF,g⟩:=i5;have hQ:=PJ hS;have i:=Z (λd=>XD S d);have f:=Z (λd=>ro S (1-H) ω ω d);unfold TN MM;have o:(n:Int).toNat=n:=ω
 have K:56-n=m:=ω
 rw[o,K];obtain⟨Q,HQ⟩:∃Q,Hid (Q=hv S):=⟨_,Z rfl⟩;rw[<-HQ.l]at hQ i f g cO⊢;obtain⟨q,b⟩:∃q,q=2+(1-H)*Q:=⟨_,rfl⟩
 have kQ:2<=q/\q<=101:=by
  rcases(show H=0\/H=1 by omega) with e|e
  ·subst e;omega
  subst e;omega
 rw[<-b]at f⊢;clear b o K;obtain⟨kF,kG⟩:=cO;obtain⟨l,e⟩:∃l,l=LI r:=⟨_,rfl⟩;have iS:=ZI r
 have gR:Hid (∀b∈l,b.length<=1048576/\∀x∈b,x.1.size<=1048576/\x.2.1.size<=1048576):=by
  intro b s;rw[e]at s;obtain⟨h1,h2⟩:=mb s;exact⟨ω,λx j=>hs _ (h2 x j)⟩
 have o:=Z (λd j=>qM a r c d j hl hs);have cE:=Z (λk=>ae L (F+Q) n m hm fS fT (l.take k))
 have bE:Hid (∀k,LT (l.take k) (n:Int)<=Q-1):=λk=>by
  have:=pW l k (n:Int);rw[<-e]at g;omega
 rw[<-e]at iS o⊢;clear e g;obtain⟨N,e⟩:∃N,N=MB (T+1) (1-H) (F+Q) L (n:Int):=⟨_,rfl⟩;have eV:=Z (λd=>rQ (T+1) (1-H) (F+Q) L (n:Int) d);rw[<-e]at eV⊢;clear e;obtain⟨p0,e⟩:∃p0,p0=LS 3 L (F+Q) empty (n:Int):=⟨_,rfl⟩;have j:=Z (λd=>bw 3 L (F+Q) empty (n:Int) d σ);rw[<-e]at j;have gW:=Z e;clear e;obtain⟨z,e⟩:∃z,z=((w.alloc (.cells (sK (n:Int) S L T H F R U O (.slice a r.length c)) 33)).alloc (.cells (dK 0 0 0 0 0 0 0 0 0 0 (.slice none 0 0) (.slice none 0 0)) 48)).alloc (.cells #[.int .i64 (T+1),.int .i64 (1-H),.int .i64 (F+Q),.int .i64 L] 28):=⟨_,rfl⟩;have cS:z.heap.size=w.heap.size+1+1+1:=by rw[e];simp
 have dM:Hid (Below w.heap.size w z):=by show Below _ _ _;rw[e];exact((KW _ _).alloc σ _).alloc ξ _
 have cF:Hid (∀d,Below (w.heap.size+1+1+1) z d->Row d (w.heap.size) (sJ (n:Int) S L T H F R U O (.slice a r.length c))/\Row d (w.heap.size+1) (dJ 0 0 0 0 0 0 0 0 0 0 (.slice none 0 0) (.slice none 0 0))/\Row d (w.heap.size+1+1) [.int .i64 (T+1),.int .i64 (1-H),.int .i64 (F+Q),.int .i64 L]):=λd s=>by
  have g:Below z.heap.size z d:=by rw[cS];exact s
  have p:Row z (w.heap.size) (sJ (n:Int) S L T H F R U O (.slice a r.length c)):=by rw[e];exact((LU w _ _).alloc _).alloc _
  have t:Row z (w.heap.size+1) (dJ 0 0 0 0 0 0 0 0 0 0 (.slice none 0 0) (.slice none 0 0)):=by rw[e];exact(dz (w:=w.alloc _) σ).alloc _
  have u:Row z (w.heap.size+1+1) [.int .i64 (T+1),.int .i64 (1-H),.int .i64 (F+Q),.int .i64 L]:=by rw[e];exact dz (w:=(w.alloc _).alloc _) σ
  exact⟨p.z g,t.z g,u.z g⟩
 go_enter func184,ntmps184
 go_wp2_with (first|(go_at_call 22;refine(i.l _).A ?_;refine NC ?_)|(go_at_call 27;refine(f.l _).A ?_;refine NC ?_))
 rw[<-e];clear e;refine(j.l _).A ?_;rintro e w1 ⟨rfl,p⟩;go_wp2_with fail;refine(iw _ _ _).A ?_;rintro e D ⟨rfl,t⟩;have g:Below (w.heap.size+1+1+1) z D:=by rw[<-cS];exact p.j (t.A p.size)
 have fX:w.heap.size+1+1+1<=D.heap.size:=by have:=g.size;omega
 clear p t j i f;have i6:w.heap.size<D.heap.size:=ω
 obtain⟨y,_,_⟩:=cF.l _ g;have f:=y.y 9;clear y;go_wp2_with fail;clear f;have j:Below (w.heap.size+1+1+1) z (D.alloc (.cells #[.bool false,.int .i64 q,.string p0] 78)):=g.alloc fX _;refine(o.l _ (h.z (dM.l.j (j.A ω)))).A ?_;rintro e w3 ⟨v,rfl,i,f⟩
 have p:w3.ownsRow (w.heap.size+1+1+1) 78 3 (.slice (some ⟨D.heap.size,0,none⟩) 1 1) 1 (NJ (MA q (LW L (F+Q) n m (l.take 0)))):=by
  have u:=CJ D (base:=w.heap.size+1+1+1) (e:=78) (size:=3) #[.bool false,.int .i64 q,.string p0] 1 fX (by unfold maxLen;omega) σ;rw[FQ,am,<-gW.l];have t:NJ (MA q [p0])=[.bool false,.int .i64 q,.string p0]:=by simp[MA,NJ]
  rw[t];exact LR u f
 have u:=Grow.start p;have fO:(LW L (F+Q) n m (l.take 0)).length=1:=by rw[FQ,am];rfl
 have kR:D.heap.size<w3.heap.size:=by have:=f.size;simp at this;omega
 have t:Below (w.heap.size+1+1+1) z w3:=j.j (f.A τ);have gL:Hid (Bat w3 (D.heap.size+1) v l):=i.A σ;obtain⟨va,vc,rfl,_⟩:=i.bts;clear i f j g p o;have gK:=Z t;have gN:=Z u;clear t u;go_wp2_with fail;go_loopw [6,8,9] (λy u i wr=>∃k:Nat,k<=l.length/\i=.int .i64 (k:Int)/\u=.int .i64 ((LW L (F+Q) n m (l.take k)).length:Int)/\Grow w3 wr (some D.heap.size) (w.heap.size+1+1+1) 78 3 y (LW L (F+Q) n m (l.take k)).length (NJ (MA q (LW L (F+Q) n m (l.take k))))) (λ_ _ i _=>l.length-(intOf i).toNat)
 case atStart=>exact⟨0,AO _,rfl,by rw[fO];rfl,by rw[fO];exact gN.l⟩
 case round =>
  obtain⟨k,hk,rfl,rfl,I⟩:=hrel;have bZ:Below (w.heap.size+1+1+1) z wr:=gK.l.j (YL I.gb ω (λk hk=>by cases hk;omega));have cA:w.heap.size+1+1+1<=wr.heap.size:=by have:=bZ.size;omega
  have hN:((LW L (F+Q) n m (l.take k)).length:Int)<=99:=by have h1:=cE.l k;have h2:=bE.l k;omega
  obtain⟨f,X⟩:∃f,f=LW L (F+Q) n m (l.take k):=⟨_,rfl⟩;rw[<-X]at I hN⊢
  obtain⟨ya,yc,rfl⟩:∃ya yc,u6=Value.slice ya f.length yc:=by
   rcases MO I.own with ⟨o,K⟩|⟨g,C,o,_⟩
   ·exact⟨none,0,by rw[o,K]⟩
   exact⟨_,C,o⟩
  obtain⟨y,P,B⟩:=cF.l _ bZ
  by_cases eL:k<l.length
  ·have C:=gL.l.kept I.gb (λk hk=>by cases hk;left;omega)
   obtain⟨lU,lZ,ev,K⟩:=C.bts
   cases ev
   obtain⟨gl,p,cc,rfl,iX,u,j⟩:=K.at eL;have i4:(k:Int)<(l.length:Int):=ω
   have kL:(0:Int)<=(k:Int):=ω
   have i:=gR.l (l.getD k []) (by simp[List.getD,eL]);have iQ:((LW L (F+Q) n m (l.take (k+1))).length:Int)<=99:=by have h1:=cE.l (k+1);have h2:=bE.l (k+1);omega
   have g:LW L (F+Q) n m (l.take (k+1))=f++NV (KZ (l.getD k [])) L (F+Q+(f.length:Int)) n m:=by rw[ZY l k [] eL,fu,<-X]
   have hO:=an (l.getD k []);obtain⟨b,s⟩:∃b,b=l.getD k []:=⟨_,rfl⟩;rw[<-s]at u j i g hO;have M:=Z (λW (hW:Chs W p b)=>dh p b cc W hW i.1 i.2);obtain⟨bo,E⟩:∃bo,bo=KZ b:=⟨_,rfl⟩;rw[<-E]at M g hO;have o:=Z (λW=>uG bo L (F+Q+(f.length:Int)) n m W ω hm fS fT);obtain⟨t,hcut⟩:∃t,t=NV bo L (F+Q+(f.length:Int)) n m:=⟨_,rfl⟩;rw[<-hcut]at o g;rw[g,AE]at iQ;have gY:=Z g;have gH:=Z X;have kU:IntKind.i64.wrap (F+Q+(f.length:Int))=F+Q+(f.length:Int):=by simp[IntKind.wrap,IntKind.bits,IntKind.signed];omega
   have A:Hid (∀d,Below wr.heap.size wr d->d.cell? ⟨gl,k,none⟩=some (.slice p b.length cc)/\d.cell? ⟨w.heap.size,0,none⟩=some (.int .i64 (n:Int))/\d.cell? ⟨w.heap.size,2,none⟩=some (.int .i64 L)/\d.cell? ⟨w.heap.size+1+1,2,none⟩=some (.int .i64 (F+Q))/\Below wr.heap.size wr d):=λd s=>⟨(s.cell (p:=⟨gl,k,none⟩) iX).j u,(y.z s).y 0,(y.z s).y 2,(B.z s).y 2,s⟩
   have W:=Z j;have G:=Z I;have cT:=Z bZ;clear s E hcut g X i j I bZ y P B C u K;go_wp2_with fail;refine AN (S:=λd=>d.cell? ⟨gl,k,none⟩=some (.slice p b.length cc)/\d.cell? ⟨w.heap.size,0,none⟩=some (.int .i64 (n:Int))/\d.cell? ⟨w.heap.size,2,none⟩=some (.int .i64 L)/\d.cell? ⟨w.heap.size+1+1,2,none⟩=some (.int .i64 (F+Q))/\Below wr.heap.size wr d) κ (A.l _ (AC _ _).drew) (λi=>?_);refine V 0 (.slice (some ⟨gl,0,none⟩) l.length vc) rfl i (V 1 (.int .i64 (k:Int)) rfl i (V 2 (.pointer (some ⟨gl,k,none⟩)) rfl i (V 3 (.slice p b.length cc) rfl i (V 5 (.pointer (some ⟨w.heap.size,2,none⟩)) rfl i (V 6 (.int .i64 L) rfl i (V 7 (.pointer (some ⟨w.heap.size+1+1,2,none⟩)) rfl i (V 8 (.int .i64 (F+Q)) rfl i (V 9 (.int .i64 (f.length:Int)) rfl i (V 10 (.int .i64 (F+Q+(f.length:Int))) rfl i (V 11 (.pointer (some ⟨w.heap.size,0,none⟩)) rfl i (V 12 (.int .i64 (n:Int)) rfl i ?_)))))))))))
   simp only[J];refine RD 4 rfl (λK g=>?_);refine LC ρ 25 #[.slice p b.length cc] γ (M.l _ (W.l.z (AC _ _).drew)) ?_;rintro e w4 ⟨rfl,cJ⟩;refine⟨_,rfl,?_⟩;have C:Below wr.heap.size wr w4:=(AC _ _).drew.j cJ;refine g.l _ _ (A.l _ C) (λbT=>?_);clear g K
   try simp only[J]
   refine RD 13 rfl (λK g=>?_);refine LC ρ 24 #[.string bo,.int .i64 L,.int .i64 (F+Q+(f.length:Int)),.int .i64 (n:Int)] γ (o.l _) ?_;rintro e E ⟨a5,c5,rfl,fV,fF,cL⟩;refine⟨_,rfl,?_⟩;have j:Below wr.heap.size wr E:=C.j (cL.A C.size);refine g.l _ _ (A.l _ j) (λaU=>?_);clear g K
   try simp only[J]
   refine RD 14 rfl (λK g=>?_);go_simp;refine g.l _ _ aU (λ_=>?_);clear g K
   try simp only[J]
   refine DN ?_;have eQ:=Z j;have gU:=Z fV
   have K:∀g,blk a5 t.length=some g->wr.heap.size<=g:=λg u=>AL C.size (fF g u)
   have gM:=Z K;have cY:=j.size;clear j cL fV fF C cJ K A M o W i bT aU;generalize wr=wo at *;go_wp2_with fail;go_loopw [6,8,11] (λo u2 i wr=>∃j:Nat,j<=t.length/\i=.int .i64 (j:Int)/\u2=.int .i64 ((f++t.take j).length:Int)/\Grow E wr (Value.slice ya f.length yc).ownBlock (w.heap.size+1+1+1) 78 3 o (f++t.take j).length (NJ (MA q (f++t.take j)))) (λ_ _ i _=>t.length-(intOf i).toNat)
   case atStart=>exact⟨0,AO _,rfl,σ,by rw[FQ,EA];exact Grow.start (LR G.l.own eQ.l)⟩
   case round =>
    obtain⟨j,hj,rfl,rfl,A⟩:=hrel;have eZ:(f++t.take j).length=f.length+j:=by rw[AE,BF];omega
    obtain⟨i,aK⟩:∃i,i=f++t.take j:=⟨_,rfl⟩;rw[<-aK]at A eZ⊢
    obtain⟨gF,gG,rfl⟩:∃gF gG,u6=Value.slice gF i.length gG:=by
     rcases MO A.own with ⟨o,K⟩|⟨g,C,o,_⟩
     ·exact⟨none,0,by rw[o,K]⟩
     exact⟨_,C,o⟩
    have eP:wo.heap.size<=wr.heap.size:=AL cY A.gb.size
    by_cases aX:j<t.length
    ·obtain⟨g5,rfl,M⟩:=gU.l.resolve_left (by intro e;have:=BY List.length e;simp at this;rw[this]at aX;simp at aX)
     have kH:wo.heap.size<=g5:=gM.l g5 (MS _ _ _ ω);have o:=M.I A.gb (λe=>by have:=(G.l.own.lt g5 e.symm).2;omega);have iU:=o.cell j (.string (t.getD j empty)) (by simp[aX,List.getD]);obtain⟨C,K⟩:∃C,C=t.getD j empty:=⟨_,rfl⟩;rw[<-K]at iU;have iV:=o.lt;have fQ:(j:Int)<(t.length:Int):=ω
     have kK:(0:Int)<=(j:Int):=ω
     have kV:IntKind.i64.wrap (q+(i.length:Int))=q+(i.length:Int):=by simp[IntKind.wrap,IntKind.bits,IntKind.signed];omega
     have kX:IntKind.i64.wrap ((i.length:Int)+1)=(i.length:Int)+1:=by simp[IntKind.wrap,IntKind.bits,IntKind.signed];omega
     have cU:=Z A;have cZ:=Z aK;have gX:=Z K;have kE:i.length<=200:=ω
     clear o M A aK K eZ
     go_wp2_with (first|(go_at_call 26;refine(iw _ _ _).A ?_;rintro e K ⟨rfl,eG⟩;have cV:=Z ((LR cU.l.own eG).alloc (.cells #[.bool false,.int .i64 (q+(i.length:Int)),.string C] 78));have kS:w.heap.size+1+1+1<=K.heap.size:=AL (AL cA eP) eG.size)|(at_builtin;refine QN _ rfl _ _ 46 rfl (w.heap.size+1+1+1) underlying46 HI.l rfl ω _ i.length _ rfl cV.l ⟨K.heap.size,0,none⟩ 1 1 [.bool false,.int .i64 (q+(i.length:Int)),.string C] rfl rfl (World.news_of_block (AW K _)) (YO _ _ _) τ (K.heap.size+1) σ ?_;intro M bQ o aM W aR eM;have gV:=Z aM;have gQ:=Z W;have gJ:=Z aR;clear aM W aR))
     have W:f++t.take (j+1)=i++[C]:=by rw[ZY t j empty aX,<-BN,<-cZ.l,<-gX.l]
     refine⟨⟨j+1,ω,ν,by rw[W,AE];go_num,?_⟩,by simp[intOf];omega⟩;rw[W,ji,iz,AE];refine((cU.l.z eG).z (KW _ _)).push (H:=K.heap.size+1) gV.l gQ.l ?_ σ;rcases gJ.l with h|h
     ·exact .inl h
     right;rw[h];rfl
    have C:j=t.length:=ω
    subst C;have cU:=Z A;have cZ:=Z aK;clear A aK;go_wp2_with fail;have o:i=LW L (F+Q) n m (l.take (k+1)):=by rw[cZ.l,gY.l,DA]
    refine⟨⟨k+1,ω,ν,by rw[<-o],?_⟩,by simp[intOf];omega⟩;rw[<-o];exact(G.l.z eQ.l).j cU.l
  have iZ:k=l.length:=ω
  subst iZ;have o:f=LW L (F+Q) n m l:=by rw[X,DA]
  clear X;have X:=Z o;have G:=Z I;have cT:=Z bZ
  have A:Hid (∀d,Below (w.heap.size+1+1+1) wr d->d.cell? ⟨w.heap.size,0,none⟩=some (.int .i64 (n:Int))/\d.cell? ⟨w.heap.size+1+1,0,none⟩=some (.int .i64 (T+1))/\d.cell? ⟨w.heap.size+1+1,1,none⟩=some (.int .i64 (1-H))/\d.cell? ⟨w.heap.size+1+1,2,none⟩=some (.int .i64 (F+Q))/\d.cell? ⟨w.heap.size+1+1,3,none⟩=some (.int .i64 L)):=λd s=>by
   obtain⟨y,P,B⟩:=cF.l _ (cT.l.j s);exact⟨y.y 0,B.y 0,B.y 1,B.y 2,B.y 3⟩
  have kT:(T+1).tmod 2=(T+1) % 2:=DW ω;clear I bZ o y P B;go_wp2_with fail;refine AN (S:=λd=>d.cell? ⟨w.heap.size,0,none⟩=some (.int .i64 (n:Int))/\d.cell? ⟨w.heap.size+1+1,0,none⟩=some (.int .i64 (T+1))/\d.cell? ⟨w.heap.size+1+1,1,none⟩=some (.int .i64 (1-H))/\d.cell? ⟨w.heap.size+1+1,2,none⟩=some (.int .i64 (F+Q))/\d.cell? ⟨w.heap.size+1+1,3,none⟩=some (.int .i64 L)) κ (A.l _ (AC _ _).drew) (λi=>?_);refine V 0 (.slice ya f.length yc) rfl i (V 1 (.agg #[.bool true,.int .i64 0,.string ⟨#[]⟩]) rfl i (V 2 (.pointer (some ⟨w.heap.size+1+1,0,none⟩)) rfl i (V 3 (.int .i64 (T+1)) rfl i (V 4 (.int .i64 ((T+1) % 2)) rfl i (V 5 (.agg #[.int .i64 (T+1),.int .i64 (1-H),.int .i64 (F+Q),.int .i64 L]) rfl i (V 6 (.pointer (some ⟨w.heap.size,0,none⟩)) rfl i (V 7 (.int .i64 (n:Int)) rfl i (V 10 (.agg #[.bool true,.int .i64 0,.string ⟨#[]⟩]) rfl i ?_))))))))
  simp only[J];refine RD 8 rfl (λK g=>?_);refine LC ρ 191 #[NI (T+1) (1-H) (F+Q) L,.int .i64 (n:Int)] γ (eV.l _) ?_;rintro e w4 ⟨rfl,cJ⟩;refine⟨_,rfl,?_⟩;have C:Below wr.heap.size wr w4:=(AC _ _).drew.j cJ;refine g.l _ _ (A.l _ (C.A cA)) (λbT=>?_);clear g K
  try simp only[J]
  refine RD 9 rfl (λK g=>?_);refine LC ρ 26 #[.int .i64 ((T+1) % 2),.string N] γ (iw _ _ _) ?_;rintro e E ⟨rfl,cL⟩;refine⟨_,rfl,?_⟩;have j:Below wr.heap.size wr E:=C.j (cL.A C.size);have cY:w.heap.size+1+1+1<=E.heap.size:=AL cA j.size;have cV:=Z ((LR G.l.own j).alloc (.cells #[.bool true,.int .i64 0,.string ⟨#[]⟩,.bool false,.int .i64 ((T+1) % 2),.string N,.bool true,.int .i64 0,.string ⟨#[]⟩] 78));refine g.l _ _ (A.l _ (j.A cA)) (λaU=>?_);clear g K
  try simp only[J]
  refine RD 11 rfl (λK g=>?_);go_simp;refine g.l _ _ (A.l _ ((j.A cA).alloc cY _)) (λy=>?_);clear g K
  try simp only[J]
  refine RD 12 rfl (λK g=>?_);refine QM _ ρ _ _ _ ρ (w.heap.size+1+1+1) underlying46 HI.l rfl ω (.slice ya f.length yc) f.length _ ρ cV.l ⟨E.heap.size,0,none⟩ 3 3 [.bool true,.int .i64 0,.string ⟨#[]⟩,.bool false,.int .i64 ((T+1) % 2),.string N,.bool true,.int .i64 0,.string ⟨#[]⟩] ρ rfl (World.news_of_block (AW E _)) (Ij _ _ _ _ _ _ _ _ _) ξ (E.heap.size+1) σ ?_;intro M bQ o aM W aR eM;have p:=((G.l.z j).z (KW _ _)).push (H:=E.heap.size+1) aM W (by rcases aR with h|h;exact .inl h;right;rw[h];rfl) σ;have d:Below (w.heap.size+1+1+1) wr o:=((j.A cA).alloc cY _).j (YL W τ (λk hk=>(G.l.own.lt k hk).1));have I:=Z p;have t:=Z (cT.l.j d);clear aM W aR p;refine g.l _ _ (A.l _ d) (λp=>?_);clear g K
  try simp only[J]
  refine RD 13 rfl (λK g=>?_);go_simp;refine g.l _ _ p (λ_=>?_);clear g K
  try simp only[J]
  refine DN ?_;clear d j cL C cJ i bT aU y p cV G cT A;obtain⟨y,P,B⟩:=cF.l _ t.l;obtain⟨i8,i9,jA,jB,jC,jD,jE,jF,jG,jH⟩:=y.k10;obtain⟨c10,jI,c12,jJ,jK,jL,c16,jM,jN,jO,iA,iB⟩:=P.k12;obtain⟨jT,jU,jV,jW,jX,jY,f16,jZ,j2,j3,iM,iN⟩:=P.z12;obtain⟨jP,jQ,jR,jS⟩:=B.k4;have i7:w.heap.size+1+1+1<=o.heap.size:=by have:=t.l.size;omega
  have kM:w.heap.size<o.heap.size:=ω
  have kO:w.heap.size+1<o.heap.size:=ω
  have kP:w.heap.size+1+1<o.heap.size:=ω
  clear y P B;have A:=Z (t.l.alloc i7 (.cells (sK (n:Int) S L (T+1) (1-H) (F+Q) L (f.length:Int) 0 (.slice a r.length c)) 33))
  go_wp2_with (first|(go_at_call 63;refine(lk a r c _ (h.z (dM.l.j (A.l.A ω))) hl).A ?_;rintro x i ⟨j,B,rfl,iT,G,C,p⟩;have g:=(LU o (sK (n:Int) S L (T+1) (1-H) (F+Q) L (f.length:Int) 0 (.slice a r.length c)) 33).z p;have d:=(cF.l _ (A.l.j (p.A τ))).2.1;have kY:i.cell? ⟨o.heap.size,0,none⟩=some (.int .i64 (n:Int)):=g.y 0;have lH:=g.E 0;have kZ:i.cell? ⟨o.heap.size,1,none⟩=some (.int .i64 S):=g.y 1;have lI:=g.E 1;have k7:i.cell? ⟨o.heap.size,2,none⟩=some (.int .i64 L):=g.y 2;have lJ:=g.E 2;have k8:i.cell? ⟨o.heap.size,3,none⟩=some (.int .i64 (T+1)):=g.y 3;have lK:=g.E 3;have k9:i.cell? ⟨o.heap.size,4,none⟩=some (.int .i64 (1-H)):=g.y 4;have lL:=g.E 4;have lA:i.cell? ⟨o.heap.size,5,none⟩=some (.int .i64 (F+Q)):=g.y 5;have lN:=g.E 5;have lC:i.cell? ⟨o.heap.size,6,none⟩=some (.int .i64 L):=g.y 6;have lO:=g.E 6;have lE:i.cell? ⟨o.heap.size,7,none⟩=some (.int .i64 (f.length:Int)):=g.y 7;have lP:=g.E 7;have lF:i.cell? ⟨o.heap.size,8,none⟩=some (.int .i64 0):=g.y 8;have lQ:=g.E 8;have lG:i.cell? ⟨o.heap.size,9,none⟩=some (.slice a r.length c):=g.y 9;have lT:=g.E 9;have iC:=d.y 0;have j4:=d.E 0;have iD:=d.y 1;have j5:=d.E 1;have iE:=d.y 2;have j6:=d.E 2;have iF:=d.y 3;have j7:=d.E 3;have iG:=d.y 4;have j8:=d.E 4;have iH:=d.y 5;have j9:=d.E 5;have iI:=d.y 6;have kA:=d.E 6;have iJ:=d.y 7;have kB:=d.E 7;have iK:=d.y 8;have kC:=d.E 8;have iL:=d.y 9;have kD:=d.E 9;have P:=d.y 10;have iO:=d.E 10;have W:=d.y 11;have iP:=d.E 11;have gS:=Z G;have y:=Z C;have i3:o.heap.size<i.heap.size:=g.lt;have K:=Z (A.l.j (p.A τ));have gZ:=Z p;clear g d G C p))
  have iW:=I.l.own.lt M rfl
  have C:∀g,j=some ⟨g,0,none⟩->LH r≠[]->o.heap.size<g:=λg u d=>by have:=y.l g (by subst u;exact MS _ _ _ (RA d));simp at this;omega
  have iR:ac j r.length (some ⟨M,0,none⟩) (f.length+3):=by
   cases s:blk j r.length with
   | none=>exact .inl s
   | some g =>
    have:=y.l g s;simp at this;refine .inr (.inr λe=>?_);rw[s,MS _ _ _ ω]at e
    cases e
    omega
  have G:Row i M (NJ (MA q f++[(true,0,empty),(false,(T+1) % 2,N),(true,0,empty)])):=by
   rw[iz];exact(SA I.l.own).z (KW _ _ |>.j (gZ.l.A σ))
  rw[<-X.l];have p:(MA q f++[(true,0,empty),(false,(T+1) % 2,N),(true,0,empty)]).length=f.length+3:=by simp[RF]
  refine AI (v:=MV ⟨0,(n:Int),S,L,T+1,1-H,F+Q,L,(f.length:Int),0,r,MA q f++[(true,0,empty),(false,(T+1) % 2,N),(true,0,empty)]⟩ j B (some ⟨M,0,none⟩) bQ) (by simp[results,results184,go_sem,MV,p,RF,iC,iD,iE,iF,iG,iH,iI,iJ,iK,iL,P,W]) rfl ⟨j,B,_,bQ,rfl,iT,⟨?_,?_,?_⟩,?_,?_,?_⟩
  ·iterate 12(refine OwnS.set' ?_ _ (λg u d=>by have:=C g u d;show w.heap.size+1≠g;omega) _)
   exact OwnS.set' gS.l _ (λg u d=>by have:=C g u d;show o.heap.size≠g;omega) _
  ·refine .inr ⟨M,rfl,?_⟩
   iterate 12(refine Row.other ?_ _ (by show w.heap.size+1≠M;omega) _)
   exact G.other _ (by show o.heap.size≠M;omega) _
  ·show ac _ _ _ (MA q f++_).length
   rw[p];exact iR
  ·exactλg u=>by have:=y.l g u;simp at this;omega
  ·exactλg u=>by change blk _ (MA q f++_).length=_ at u;rw[p,MS _ _ _ ω]at u;cases u;omega
  iterate 12(refine IA ?_ (by show w.heap.size<=w.heap.size+1;omega) _)
  exact(dM.l.j (K.l.A ω)).setCell (p:=⟨o.heap.size,9,none⟩) (by show w.heap.size<=o.heap.size;omega) _
theorem uI(W S L T H F R U O:Int)(a:Option Addr)(b:List Pr)(c:Nat)(w:World)(h:Prs w a b)(i:b.length<=1048576)(j:∀x∈b,x.1.size<=1048576/\x.2.size<=1048576)(e:XN W S L T H F b):Calls prog 184 #[MM W S L T H F R U O a b.length c] w λx f=>TR w f x (OH W S L T H F b):=by
 unfold OH WB
 by_cases d:T+1<=1000000000/\F+hv S<=999999000
 case pos =>
  rw[AM d];simp only[GZ];obtain⟨m,_⟩:=id e;obtain⟨n,rfl⟩:∃n:Nat,W=(n:Int):=⟨W.toNat,ω⟩;exact Bx S L T H F R U O n (56-n) a b c w h i j ω ω ω e d
 case neg =>
  rw[AJ d];simp only[EW,IJ];obtain⟨m,l,o,p,n,hF,_⟩:=e;have k:=PJ l;have g:=Z (λf=>XD S f);unfold MM;obtain⟨Q,f⟩:∃Q,Hid (Q=hv S):=⟨_,Z rfl⟩;rw[<-f.l]at k g d;clear h i j;go_enter func184,ntmps184
  go_wp2_with (first|(go_at_call 22;refine(g.l _).A ?_;refine NC ?_))
  all_goals
   refine AI (v:=MV (LD 4) none 0 none 0) (by simp[results,results184,go_sem,MV,LD]) rfl (Eh rfl ?_);exact((KW _ _).alloc σ _).alloc ξ _
