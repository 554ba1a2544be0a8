import Derived.Test.YtmlejnbjclkdjaaGreatDoorPrG41
set_option maxHeartbeats 16000000
namespace Go.Proofs.YtmlejnbjclkdjaaGreatDoor
open _root_.ByteArray(empty)
open Tryz
open Go.RowKit
set_option linter.all false
set_option maxRecDepth 8000
theorem tY:(prog.info? 130).map (λi=>(i.zero,i.size,i.bytes))=some (some (.agg #[M0 false,.int .i64 0,Mz empty]),3,32):=κ
theorem Kw(b c d:Bool)(e f g:Int)(h i j:Y):∀u∈[M0 b,.int .i64 e,Mz h,M0 c,.int .i64 f,Mz i,M0 d,.int .i64 g,Mz j],u.oneCell'=true:=by
 intro u a;simp only[DY,EJ,GV]at a;rcases a with rfl|rfl|rfl|rfl|rfl|rfl|rfl|rfl|rfl<;>rfl
theorem qy(n h:Int)(i:0<=h)(j:h<=1)(w:Nb):Calls prog 183 #[.int .i64 n,.int .i64 h] w λe a=>e=M3 (.int .i64 (2+h*hv n))/\a=w:=by
 have c:0<=hv n/\hv n<=99:=by by_cases h:8<=n/\n<=200;have:=QM h;omega;rw[YJ h];omega
 obtain⟨Q,b⟩:∃Q,Hid (Q=hv n):=⟨_,Z rfl⟩;rw[<-b.l]at c⊢;obtain⟨q,a⟩:∃q,q=h*Q:=⟨_,rfl⟩
 have d:0<=q/\q<=99:=by
  rcases(show h=0\/h=1 by omega) with e|e
  ·subst e;omega
  subst e;omega
 have f:IntKind.i64.wrap (h*Q)=q:=by rw[<-a];simp[IntKind.wrap,IntKind.bits,IntKind.signed];omega
 have g:IntKind.i64.wrap (2+q)=2+q:=by simp[IntKind.wrap,IntKind.bits,IntKind.signed];omega
 rw[<-a];clear a;go_enter func183,ntmps183;go_wp2_with (go_at_call 78;refine(WY _ _).z ?_;rw[<-b.l];refine OJ ?_);go_ret;exact⟨rfl,rfl⟩
theorem ii(n:Int)(d:Y)(w:Nb):Calls prog 186 #[.int .i64 n,Mz d] w λe a=>e=M3 (.agg #[M0 false,.int .i64 n,Mz d])/\Below w.heap.size w a:=by
 go_enter func186,ntmps186;go_wp2;refine AJ (v:=.agg #[M0 false,.int .i64 n,Mz d]) (by simp[results,results186,go_sem]) rfl ⟨rfl,LO _ _⟩
theorem Dc(S L T H F R U O:Int)(n m:Nat)(a:M6)(r:List Pr)(c:Nat)(w:Nb)(h:Prs w a r)(hl:r.length<=1048576)(hs:∀x∈r,x.1.size<=1048576/\x.2.size<=1048576)(hm:n+m=56)(fG:1<=n)(fH:n<=8)(iW:XI (n:Int) S L T H F r)(cH:T+1<=1000000000/\F+hv S<=999999000):Calls prog 185 #[NK (n:Int) S L T H F R U O a r.length c] w λx d=>UH w d x (XD (n:Int) S L T H F r):=by
 obtain⟨i0,b,e,f,g⟩:=WT tY;have HI:=Z (AH b (AH e (AH f g)));clear b e f g;obtain⟨hW,hS,hL,hT,hH,hF,g⟩:=iW;have hQ:=QM hS;have i:=Z (λd=>WY S d);have f:=Z (λd=>qy S (1-H) ω ω d);unfold XD NK;have o:(n:Int).toNat=n:=ω
 have J:56-n=m:=ω
 rw[o,J];obtain⟨Q,HQ⟩:∃Q,Hid (Q=hv S):=⟨_,Z rfl⟩;rw[<-HQ.l]at hQ i f g cH⊢;obtain⟨q,b⟩:∃q,q=2+(1-H)*Q:=⟨_,rfl⟩
 have kM:2<=q/\q<=101:=by
  rcases(show H=0\/H=1 by omega) with e|e
  ·subst e;omega
  subst e;omega
 rw[<-b]at f⊢;clear b o J;obtain⟨kC,kD⟩:=cH;obtain⟨l,e⟩:∃l,l=MD r:=⟨_,rfl⟩;have iM:=YX r
 have gJ:Hid (∀b∈l,b.length<=1048576/\∀x∈b,x.1.size<=1048576/\x.2.1.size<=1048576):=by
  intro b s;rw[e]at s;obtain⟨h1,h2⟩:=kt s;exact⟨ω,λx j=>hs _ (h2 x j)⟩
 have o:=Z (λd j=>qN a r c d j hl hs);have b7:=Z (λk=>da L (F+Q) n m hm fG fH (l.take k))
 have bC:Hid (∀k,MJ (l.take k) (n:Int)<=Q-1):=λk=>by
  have:=pT l k (n:Int);rw[<-e]at g;omega
 rw[<-e]at iM o⊢;clear e g;obtain⟨M,e⟩:∃M,M=MZ (T+1) (1-H) (F+Q) L (n:Int):=⟨_,rfl⟩;have eN:=Z (λd=>rU (T+1) (1-H) (F+Q) L (n:Int) d);rw[<-e]at eN⊢;clear e;obtain⟨p0,e⟩:∃p0,p0=MM 3 L (F+Q) empty (n:Int):=⟨_,rfl⟩;have j:=Z (λd=>aq 3 L (F+Q) empty (n:Int) d σ);rw[<-e]at j;have gN:=Z e;clear e;obtain⟨z,e⟩:∃z,z=((w.alloc (.cells (sK (n:Int) S L T H F R U O (.slice a r.length c)) 33)).alloc (.cells (dK 0 0 0 0 0 0 0 0 0 0 (.slice none 0 0) (.slice none 0 0)) 99)).alloc (.cells #[.int .i64 (T+1),.int .i64 (1-H),.int .i64 (F+Q),.int .i64 L] 28):=⟨_,rfl⟩;have cL:z.heap.size=w.heap.size+1+1+1:=by rw[e];simp
 have cV:Hid (Below w.heap.size w z):=by show Below _ _ _;rw[e];exact((LO _ _).alloc σ _).alloc ξ _
 have cA:Hid (∀d,Below (w.heap.size+1+1+1) z d->Row d (w.heap.size) (sJ (n:Int) S L T H F R U O (.slice a r.length c))/\Row d (w.heap.size+1) (dJ 0 0 0 0 0 0 0 0 0 0 (.slice none 0 0) (.slice none 0 0))/\Row d (w.heap.size+1+1) [.int .i64 (T+1),.int .i64 (1-H),.int .i64 (F+Q),.int .i64 L]):=λd s=>by
  have g:Below z.heap.size z d:=by rw[cL];exact s
  have p:Row z (w.heap.size) (sJ (n:Int) S L T H F R U O (.slice a r.length c)):=by rw[e];exact((MT w _ _).alloc _).alloc _
  have t:Row z (w.heap.size+1) (dJ 0 0 0 0 0 0 0 0 0 0 (.slice none 0 0) (.slice none 0 0)):=by rw[e];exact(dt (w:=w.alloc _) σ).alloc _
  have u:Row z (w.heap.size+1+1) [.int .i64 (T+1),.int .i64 (1-H),.int .i64 (F+Q),.int .i64 L]:=by rw[e];exact dt (w:=(w.alloc _).alloc _) σ
  exact⟨p.I g,t.I g,u.I g⟩
 go_enter func185,ntmps185
 go_wp2_with (first|(go_at_call 78;refine(i.l _).z ?_;refine OJ ?_)|(go_at_call 183;refine(f.l _).z ?_;refine OJ ?_))
 rw[<-e];clear e;refine(j.l _).z ?_;rintro e w1 ⟨rfl,p⟩;go_wp2_with fail;refine(ii _ _ _).z ?_;rintro e D ⟨rfl,t⟩;have g:Below (w.heap.size+1+1+1) z D:=by rw[<-cL];exact p.j (t.z p.size)
 have fQ:w.heap.size+1+1+1<=D.heap.size:=by have:=g.size;omega
 clear p t j i f;have iX:w.heap.size<D.heap.size:=ω
 obtain⟨y,_,_⟩:=cA.l _ g;have f:=y.y 9;clear y;go_wp2_with fail;clear f;have j:Below (w.heap.size+1+1+1) z (D.alloc (.cells #[M0 false,.int .i64 q,Mz p0] 130)):=g.alloc fQ _;refine(o.l _ (h.I (cV.l.j (j.z ω)))).z ?_;rintro e w3 ⟨v,rfl,i,f⟩
 have p:w3.ownsRow (w.heap.size+1+1+1) 130 3 (.slice (Mw D.heap.size 0) 1 1) 1 (OO (MP q (NM L (F+Q) n m (l.take 0)))):=by
  have u:=DT D (base:=w.heap.size+1+1+1) (e:=130) (size:=3) #[M0 false,.int .i64 q,Mz p0] 1 fQ (by unfold maxLen;omega) σ;rw[ES,ZX,<-gN.l];have t:OO (MP q [p0])=[M0 false,.int .i64 q,Mz p0]:=by simp[MP,OO]
  rw[t];exact NC u f
 have u:=Grow.start p;have fE:(NM L (F+Q) n m (l.take 0)).length=1:=by rw[ES,ZX];rfl
 have kO:D.heap.size<w3.heap.size:=by have:=f.size;simp at this;omega
 have t:Below (w.heap.size+1+1+1) z w3:=j.j (f.z τ);have gF:Hid (Bat w3 (D.heap.size+1) v l):=i.z σ;obtain⟨va,vc,rfl,_⟩:=i.bts;clear i f j g p o;have gE:=Z t;have gH:=Z u;clear t u;go_wp2_with fail;go_loopw [6,8,9] (λy u i wr=>∃k:Nat,k<=l.length/\i=.int .i64 (k:Int)/\u=.int .i64 ((NM L (F+Q) n m (l.take k)).length:Int)/\Grow w3 wr (some D.heap.size) (w.heap.size+1+1+1) 130 3 y (NM L (F+Q) n m (l.take k)).length (OO (MP q (NM L (F+Q) n m (l.take k))))) (λ_ _ i _=>l.length-(intOf i).toNat)
 case atStart=>exact⟨0,AM _,rfl,by rw[fE];rfl,by rw[fE];exact gH.l⟩
 case round =>
  obtain⟨k,hk,rfl,rfl,I⟩:=hrel;have X:Below (w.heap.size+1+1+1) z wr:=gE.l.j (YE I.gb ω (λk hk=>by cases hk;omega));have bY:w.heap.size+1+1+1<=wr.heap.size:=by have:=X.size;omega
  have hN:((NM L (F+Q) n m (l.take k)).length:Int)<=99:=by have h1:=b7.l k;have h2:=bC.l k;omega
  obtain⟨f,V⟩:∃f,f=NM L (F+Q) n m (l.take k):=⟨_,rfl⟩;rw[<-V]at I hN⊢
  obtain⟨ya,yc,rfl⟩:∃ya yc,u6=Value.slice ya f.length yc:=by
   rcases NU I.own with ⟨o,J⟩|⟨g,C,o,_⟩
   ·exact⟨none,0,by rw[o,J]⟩
   exact⟨_,C,o⟩
  obtain⟨y,N,B⟩:=cA.l _ X
  by_cases eF:k<l.length
  ·have C:=gF.l.kept I.gb (λk hk=>by cases hk;left;omega)
   obtain⟨lP,lQ,ev,K⟩:=C.bts
   cases ev
   obtain⟨gl,p,cc,rfl,iR,u,j⟩:=K.at eF;have iV:(k:Int)<(l.length:Int):=ω
   have kG:(0:Int)<=(k:Int):=ω
   have i:=gJ.l (l.getD k []) (by simp[List.getD,eF]);have iK:((NM L (F+Q) n m (l.take (k+1))).length:Int)<=99:=by have h1:=b7.l (k+1);have h2:=bC.l (k+1);omega
   have g:NM L (F+Q) n m (l.take (k+1))=f++PG (LT (l.getD k [])) L (F+Q+(f.length:Int)) n m:=by rw[ZM l k [] eF,ex,<-V]
   have hO:=ZY (l.getD k []);obtain⟨b,s⟩:∃b,b=l.getD k []:=⟨_,rfl⟩;rw[<-s]at u j i g hO;have J:=Z (λW (hW:Chs W p b)=>cw p b cc W hW i.1 i.2);obtain⟨bo,E⟩:∃bo,bo=LT b:=⟨_,rfl⟩;rw[<-E]at J g hO;have o:=Z (λW=>uZ bo L (F+Q+(f.length:Int)) n m W ω hm fG fH);obtain⟨t,hcut⟩:∃t,t=PG bo L (F+Q+(f.length:Int)) n m:=⟨_,rfl⟩;rw[<-hcut]at o g;rw[g,AF]at iK;have gR:=Z g;have fY:=Z V;have kR:IntKind.i64.wrap (F+Q+(f.length:Int))=F+Q+(f.length:Int):=by simp[IntKind.wrap,IntKind.bits,IntKind.signed];omega
   have A:Hid (∀d,Below wr.heap.size wr d->d.cell? ⟨gl,k,none⟩=some (.slice p b.length cc)/\d.cell? ⟨w.heap.size,0,none⟩=some (.int .i64 (n:Int))/\d.cell? ⟨w.heap.size,2,none⟩=some (.int .i64 L)/\d.cell? ⟨w.heap.size+1+1,2,none⟩=some (.int .i64 (F+Q))/\Below wr.heap.size wr d):=λd s=>⟨(s.cell (p:=⟨gl,k,none⟩) iR).j u,(y.I s).y 0,(y.I s).y 2,(B.I s).y 2,s⟩
   have P:=Z j;have G:=Z I;have cM:=Z X;clear s E hcut g V i j I X y N B C u K;go_wp2_with fail;refine AN (S:=λd=>d.cell? ⟨gl,k,none⟩=some (.slice p b.length cc)/\d.cell? ⟨w.heap.size,0,none⟩=some (.int .i64 (n:Int))/\d.cell? ⟨w.heap.size,2,none⟩=some (.int .i64 L)/\d.cell? ⟨w.heap.size+1+1,2,none⟩=some (.int .i64 (F+Q))/\Below wr.heap.size wr d) κ (A.l _ (AB _ _).drew) (λi=>?_);refine TY 0 (.slice (Mw gl 0) l.length vc) rfl i (TY 1 (.int .i64 (k:Int)) rfl i (TY 2 (Mv gl k) rfl i (TY 3 (.slice p b.length cc) rfl i (TY 5 (Mv w.heap.size 2) rfl i (TY 6 (.int .i64 L) rfl i (TY 7 (Mv (w.heap.size+1+1) 2) rfl i (TY 8 (.int .i64 (F+Q)) rfl i (TY 9 (.int .i64 (f.length:Int)) rfl i (TY 10 (.int .i64 (F+Q+(f.length:Int))) rfl i (TY 11 (Mv w.heap.size 0) rfl i (TY 12 (.int .i64 (n:Int)) rfl i ?_)))))))))))
   simp only[PS];refine RD 4 rfl (λK g=>?_);refine LW ρ 135 #[.slice p b.length cc] γ (J.l _ (P.l.I (AB _ _).drew)) ?_;rintro e w4 ⟨rfl,cE⟩;refine⟨_,rfl,?_⟩;have C:Below wr.heap.size wr w4:=(AB _ _).drew.j cE;refine g.l _ _ (A.l _ C) (λbQ=>?_);clear g K
   try simp only[PS]
   refine RD 13 rfl (λK g=>?_);refine LW ρ 189 #[Mz bo,.int .i64 L,.int .i64 (F+Q+(f.length:Int)),.int .i64 (n:Int)] γ (o.l _) ?_;rintro e E ⟨a5,c5,rfl,fJ,W,cF⟩;refine⟨_,rfl,?_⟩;have j:Below wr.heap.size wr E:=C.j (cF.z C.size);refine g.l _ _ (A.l _ j) (λaU=>?_);clear g K
   try simp only[PS]
   refine RD 14 rfl (λK g=>?_);go_simp;refine g.l _ _ aU (λ_=>?_);clear g K
   try simp only[PS]
   refine DN ?_;have eK:=Z j;have gL:=Z fJ
   have K:∀g,blk a5 t.length=some g->wr.heap.size<=g:=λg u=>AK C.size (W g u)
   have gG:=Z K;have cQ:=j.size;clear j cF fJ W C cE K A J o P i bQ aU;generalize wr=wo at *;go_wp2_with fail;go_loopw [6,8,11] (λo u2 i wr=>∃j:Nat,j<=t.length/\i=.int .i64 (j:Int)/\u2=.int .i64 ((f++t.take j).length:Int)/\Grow E wr (Value.slice ya f.length yc).ownBlock (w.heap.size+1+1+1) 130 3 o (f++t.take j).length (OO (MP q (f++t.take j)))) (λ_ _ i _=>t.length-(intOf i).toNat)
   case atStart=>exact⟨0,AM _,rfl,σ,by rw[ES,DZ];exact Grow.start (NC G.l.own eK.l)⟩
   case round =>
    obtain⟨j,hj,rfl,rfl,A⟩:=hrel;have eQ:(f++t.take j).length=f.length+j:=by rw[AF,AP];omega
    obtain⟨i,K⟩:∃i,i=f++t.take j:=⟨_,rfl⟩;rw[<-K]at A eQ⊢
    obtain⟨fW,fX,rfl⟩:∃fW fX,u6=Value.slice fW i.length fX:=by
     rcases NU A.own with ⟨o,J⟩|⟨g,C,o,_⟩
     ·exact⟨none,0,by rw[o,J]⟩
     exact⟨_,C,o⟩
    have eJ:wo.heap.size<=wr.heap.size:=AK cQ A.gb.size
    by_cases aX:j<t.length
    ·obtain⟨g5,rfl,P⟩:=gL.l.resolve_left (by intro e;have:=CX List.length e;simp at this;rw[this]at aX;simp at aX)
     have kE:wo.heap.size<=g5:=gG.l g5 (NT _ _ _ ω);have o:=P.J A.gb (λe=>by have:=(G.l.own.lt g5 e.symm).2;omega);have iO:=o.cell j (Mz (t.getD j empty)) (by simp[aX,List.getD]);obtain⟨C,J⟩:∃C,C=t.getD j empty:=⟨_,rfl⟩;rw[<-J]at iO;have iP:=o.lt;have fF:(j:Int)<(t.length:Int):=ω
     have kF:(0:Int)<=(j:Int):=ω
     have kS:IntKind.i64.wrap (q+(i.length:Int))=q+(i.length:Int):=by simp[IntKind.wrap,IntKind.bits,IntKind.signed];omega
     have kT:IntKind.i64.wrap ((i.length:Int)+1)=(i.length:Int)+1:=by simp[IntKind.wrap,IntKind.bits,IntKind.signed];omega
     have cN:=Z A;have cS:=Z K;have gQ:=Z J;have kB:i.length<=200:=ω
     clear o P A K J eQ
     go_wp2_with (first|(go_at_call 186;refine(ii _ _ _).z ?_;rintro e w6 ⟨rfl,dU⟩;have cO:=Z ((NC cN.l.own dU).alloc (.cells #[M0 false,.int .i64 (q+(i.length:Int)),Mz C] 130));have kP:w.heap.size+1+1+1<=w6.heap.size:=AK (AK bY eJ) dU.size)|(at_builtin;refine QY _ rfl _ _ 97 rfl (w.heap.size+1+1+1) underlying97 HI.l rfl ω _ i.length _ rfl cO.l ⟨w6.heap.size,0,none⟩ 1 1 [M0 false,.int .i64 (q+(i.length:Int)),Mz C] rfl rfl (World.news_of_block (AU w6 _)) (YH _ _ _) τ (w6.heap.size+1) σ ?_;intro J bJ o W P aR eG;have gM:=Z W;have gI:=Z P;have gD:=Z aR;clear W P aR))
     have P:f++t.take (j+1)=i++[C]:=by rw[ZM t j empty aX,<-BT,<-cS.l,<-gQ.l]
     refine⟨⟨j+1,ω,ν,by rw[P,AF];go_num,?_⟩,by simp[intOf];omega⟩;rw[P,og,ir,AF];refine((cN.l.I dU).I (LO _ _)).push (H:=w6.heap.size+1) gM.l gI.l ?_ σ;rcases gD.l with h|h
     ·exact .inl h
     right;rw[h];rfl
    have C:j=t.length:=ω
    subst C;have cN:=Z A;have cS:=Z K;clear A K;go_wp2_with fail;have o:i=NM L (F+Q) n m (l.take (k+1)):=by rw[cS.l,gR.l,CW]
    refine⟨⟨k+1,ω,ν,by rw[<-o],?_⟩,by simp[intOf];omega⟩;rw[<-o];exact(G.l.I eK.l).j cN.l
  have iT:k=l.length:=ω
  subst iT;have o:f=NM L (F+Q) n m l:=by rw[V,CW]
  clear V;have V:=Z o;have G:=Z I;have cM:=Z X
  have A:Hid (∀d,Below (w.heap.size+1+1+1) wr d->d.cell? ⟨w.heap.size,0,none⟩=some (.int .i64 (n:Int))/\d.cell? ⟨w.heap.size+1+1,0,none⟩=some (.int .i64 (T+1))/\d.cell? ⟨w.heap.size+1+1,1,none⟩=some (.int .i64 (1-H))/\d.cell? ⟨w.heap.size+1+1,2,none⟩=some (.int .i64 (F+Q))/\d.cell? ⟨w.heap.size+1+1,3,none⟩=some (.int .i64 L)):=λd s=>by
   obtain⟨y,N,B⟩:=cA.l _ (cM.l.j s);exact⟨y.y 0,B.y 0,B.y 1,B.y 2,B.y 3⟩
  have kQ:(T+1).tmod 2=(T+1) % 2:=EK ω;clear I X o y N B;go_wp2_with fail;refine AN (S:=λd=>d.cell? ⟨w.heap.size,0,none⟩=some (.int .i64 (n:Int))/\d.cell? ⟨w.heap.size+1+1,0,none⟩=some (.int .i64 (T+1))/\d.cell? ⟨w.heap.size+1+1,1,none⟩=some (.int .i64 (1-H))/\d.cell? ⟨w.heap.size+1+1,2,none⟩=some (.int .i64 (F+Q))/\d.cell? ⟨w.heap.size+1+1,3,none⟩=some (.int .i64 L)) κ (A.l _ (AB _ _).drew) (λi=>?_);refine TY 0 (.slice ya f.length yc) rfl i (TY 1 (.agg #[M0 true,.int .i64 0,Mz ⟨#[]⟩]) rfl i (TY 2 (Mv (w.heap.size+1+1) 0) rfl i (TY 3 (.int .i64 (T+1)) rfl i (TY 4 (.int .i64 ((T+1) % 2)) rfl i (TY 5 (.agg #[.int .i64 (T+1),.int .i64 (1-H),.int .i64 (F+Q),.int .i64 L]) rfl i (TY 6 (Mv w.heap.size 0) rfl i (TY 7 (.int .i64 (n:Int)) rfl i (TY 10 (.agg #[M0 true,.int .i64 0,Mz ⟨#[]⟩]) rfl i ?_))))))))
  simp only[PS];refine RD 8 rfl (λK g=>?_);refine LW ρ 216 #[ON (T+1) (1-H) (F+Q) L,.int .i64 (n:Int)] γ (eN.l _) ?_;rintro e w4 ⟨rfl,cE⟩;refine⟨_,rfl,?_⟩;have C:Below wr.heap.size wr w4:=(AB _ _).drew.j cE;refine g.l _ _ (A.l _ (C.z bY)) (λbQ=>?_);clear g K
  try simp only[PS]
  refine RD 9 rfl (λK g=>?_);refine LW ρ 186 #[.int .i64 ((T+1) % 2),Mz M] γ (ii _ _ _) ?_;rintro e E ⟨rfl,cF⟩;refine⟨_,rfl,?_⟩;have j:Below wr.heap.size wr E:=C.j (cF.z C.size);have cQ:w.heap.size+1+1+1<=E.heap.size:=AK bY j.size;have cO:=Z ((NC G.l.own j).alloc (.cells #[M0 true,.int .i64 0,Mz ⟨#[]⟩,M0 false,.int .i64 ((T+1) % 2),Mz M,M0 true,.int .i64 0,Mz ⟨#[]⟩] 130));refine g.l _ _ (A.l _ (j.z bY)) (λaU=>?_);clear g K
  try simp only[PS]
  refine RD 11 rfl (λK g=>?_);go_simp;refine g.l _ _ (A.l _ ((j.z bY).alloc cQ _)) (λy=>?_);clear g K
  try simp only[PS]
  refine RD 12 rfl (λK g=>?_);refine SI _ ρ _ _ _ ρ (w.heap.size+1+1+1) underlying97 HI.l rfl ω (.slice ya f.length yc) f.length _ ρ cO.l ⟨E.heap.size,0,none⟩ 3 3 [M0 true,.int .i64 0,Mz ⟨#[]⟩,M0 false,.int .i64 ((T+1) % 2),Mz M,M0 true,.int .i64 0,Mz ⟨#[]⟩] ρ rfl (World.news_of_block (AU E _)) (Kw _ _ _ _ _ _ _ _ _) ξ (E.heap.size+1) σ ?_;intro J bJ o W P aR eG;have p:=((G.l.I j).I (LO _ _)).push (H:=E.heap.size+1) W P (by rcases aR with h|h;exact .inl h;right;rw[h];rfl) σ;have d:Below (w.heap.size+1+1+1) wr o:=((j.z bY).alloc cQ _).j (YE P τ (λk hk=>(G.l.own.lt k hk).1));have I:=Z p;have t:=Z (cM.l.j d);clear W P aR p;refine g.l _ _ (A.l _ d) (λp=>?_);clear g K
  try simp only[PS]
  refine RD 13 rfl (λK g=>?_);go_simp;refine g.l _ _ p (λ_=>?_);clear g K
  try simp only[PS]
  refine DN ?_;clear d j cF C cE i bQ aU y p cO G cM A;obtain⟨y,N,B⟩:=cA.l _ t.l;obtain⟨iZ,i3,i4,i5,i6,i7,i8,i9,jA,jB⟩:=y.k10;obtain⟨c10,jC,c12,jD,jE,jF,c16,jG,jH,jI,gU,gV⟩:=N.k12;obtain⟨jN,jO,jP,jQ,jR,jS,f16,jT,jU,jV,iG,iH⟩:=N.z12;obtain⟨jJ,jK,jL,jM⟩:=B.k4;have iY:w.heap.size+1+1+1<=o.heap.size:=by have:=t.l.size;omega
  have kH:w.heap.size<o.heap.size:=ω
  have kK:w.heap.size+1<o.heap.size:=ω
  have kL:w.heap.size+1+1<o.heap.size:=ω
  clear y N B;have A:=Z (t.l.alloc iY (.cells (sK (n:Int) S L (T+1) (1-H) (F+Q) L (f.length:Int) 0 (.slice a r.length c)) 33))
  go_wp2_with (first|(go_at_call 73;refine(gm a r c _ (h.I (cV.l.j (A.l.z ω))) hl).z ?_;rintro x i ⟨j,B,rfl,iN,G,C,p⟩;have g:=(MT o (sK (n:Int) S L (T+1) (1-H) (F+Q) L (f.length:Int) 0 (.slice a r.length c)) 33).I p;have d:=(cA.l _ (A.l.j (p.z τ))).2.1;have kU:i.cell? ⟨o.heap.size,0,none⟩=some (.int .i64 (n:Int)):=g.y 0;have lF:=g.A 0;have kV:i.cell? ⟨o.heap.size,1,none⟩=some (.int .i64 S):=g.y 1;have lG:=g.A 1;have kX:i.cell? ⟨o.heap.size,2,none⟩=some (.int .i64 L):=g.y 2;have lH:=g.A 2;have kY:i.cell? ⟨o.heap.size,3,none⟩=some (.int .i64 (T+1)):=g.y 3;have lI:=g.A 3;have kZ:i.cell? ⟨o.heap.size,4,none⟩=some (.int .i64 (1-H)):=g.y 4;have lJ:=g.A 4;have k7:i.cell? ⟨o.heap.size,5,none⟩=some (.int .i64 (F+Q)):=g.y 5;have lK:=g.A 5;have k8:i.cell? ⟨o.heap.size,6,none⟩=some (.int .i64 L):=g.y 6;have lL:=g.A 6;have k9:i.cell? ⟨o.heap.size,7,none⟩=some (.int .i64 (f.length:Int)):=g.y 7;have lM:=g.A 7;have lA:i.cell? ⟨o.heap.size,8,none⟩=some (.int .i64 0):=g.y 8;have lN:=g.A 8;have lE:i.cell? ⟨o.heap.size,9,none⟩=some (.slice a r.length c):=g.y 9;have lO:=g.A 9;have gW:=d.y 0;have jW:=d.A 0;have gX:=d.y 1;have jX:=d.A 1;have gY:=d.y 2;have jY:=d.A 2;have gZ:=d.y 3;have jZ:=d.A 3;have iA:=d.y 4;have j5:=d.A 4;have iB:=d.y 5;have j6:=d.A 5;have iC:=d.y 6;have j7:=d.A 6;have iD:=d.y 7;have j8:=d.A 7;have iE:=d.y 8;have j9:=d.A 8;have iF:=d.y 9;have kA:=d.A 9;have N:=d.y 10;have iI:=d.A 10;have P:=d.y 11;have iJ:=d.A 11;have W:=Z G;have y:=Z C;have iU:o.heap.size<i.heap.size:=g.lt;have K:=Z (A.l.j (p.z τ));have X:=Z p;clear g d G C p))
  have iQ:=I.l.own.lt J rfl
  have C:∀g,j=Mw g 0->MC r≠[]->o.heap.size<g:=λg u d=>by have:=y.l g (by subst u;exact NT _ _ _ (SM d));simp at this;omega
  have iL:ZP j r.length (Mw J 0) (f.length+3):=by
   cases s:blk j r.length with
   | none=>exact .inl s
   | some g =>
    have:=y.l g s;simp at this;refine .inr (.inr λe=>?_);rw[s,NT _ _ _ ω]at e
    cases e
    omega
  have G:Row i J (OO (MP q f++[(true,0,empty),(false,(T+1) % 2,M),(true,0,empty)])):=by
   rw[ir];exact(TE I.l.own).I (LO _ _ |>.j (X.l.z σ))
  rw[<-V.l];have p:(MP q f++[(true,0,empty),(false,(T+1) % 2,M),(true,0,empty)]).length=f.length+3:=by simp[QW]
  refine AJ (v:=NZ ⟨0,(n:Int),S,L,T+1,1-H,F+Q,L,(f.length:Int),0,r,MP q f++[(true,0,empty),(false,(T+1) % 2,M),(true,0,empty)]⟩ j B (Mw J 0) bJ) (by simp[results,results185,go_sem,NZ,p,QW,gW,gX,gY,gZ,iA,iB,iC,iD,iE,iF,N,P]) rfl ⟨j,B,_,bJ,rfl,iN,⟨?_,?_,?_⟩,?_,?_,?_⟩
  ·iterate 12(refine OwnS.set' ?_ _ (λg u d=>by have:=C g u d;show w.heap.size+1≠g;omega) _)
   exact OwnS.set' W.l _ (λg u d=>by have:=C g u d;show o.heap.size≠g;omega) _
  ·refine .inr ⟨J,rfl,?_⟩
   iterate 12(refine Row.other ?_ _ (by show w.heap.size+1≠J;omega) _)
   exact G.other _ (by show o.heap.size≠J;omega) _
  ·show ZP _ _ _ (MP q f++_).length
   rw[p];exact iL
  ·exactλg u=>by have:=y.l g u;simp at this;omega
  ·exactλg u=>by change blk _ (MP q f++_).length=_ at u;rw[p,NT _ _ _ ω]at u;cases u;omega
  iterate 12(refine II ?_ (by show w.heap.size<=w.heap.size+1;omega) _)
  exact(cV.l.j (K.l.z ω)).setCell (p:=⟨o.heap.size,9,none⟩) (by show w.heap.size<=o.heap.size;omega) _
theorem vC(W S L T H F R U O:Int)(a:M6)(b:List Pr)(c:Nat)(w:Nb)(h:Prs w a b)(i:b.length<=1048576)(j:∀x∈b,x.1.size<=1048576/\x.2.size<=1048576)(e:XI W S L T H F b):Calls prog 185 #[NK W S L T H F R U O a b.length c] w λx f=>UH w f x (PM W S L T H F b):=by
 unfold PM WG
 by_cases d:T+1<=1000000000/\F+hv S<=999999000
 case pos =>
  rw[AL d];simp only[IH];obtain⟨m,_⟩:=id e;obtain⟨n,rfl⟩:∃n:Nat,W=(n:Int):=⟨W.toNat,ω⟩;exact Dc S L T H F R U O n (56-n) a b c w h i j ω ω ω e d
 case neg =>
  rw[AI d];simp only[FH,IS];obtain⟨m,l,o,p,n,hF,_⟩:=e;have k:=QM l;have g:=Z (λf=>WY S f);unfold NK;obtain⟨Q,f⟩:∃Q,Hid (Q=hv S):=⟨_,Z rfl⟩;rw[<-f.l]at k g d;clear h i j;go_enter func185,ntmps185
  go_wp2_with (first|(go_at_call 78;refine(g.l _).z ?_;refine OJ ?_))
  all_goals
   refine AJ (v:=NZ (LX 4) none 0 none 0) (by simp[results,results185,go_sem,NZ,LX]) rfl (Gj rfl ?_);exact((LO _ _).alloc σ _).alloc ξ _
