import Derived.Test.YtmlejnbjclkdjaaGreatDoorPrScS
set_option maxHeartbeats 16000000
namespace Go.Proofs.YtmlejnbjclkdjaaGreatDoor
open _root_.ByteArray(empty)
open Tryz
open Go.RowKit
set_option linter.all false
set_option maxRecDepth 8000
theorem XH(x:Int)(a:-9223372036854775808<=x)(b:x<=9223372036854775807):IntKind.i64.wrap x=x:=by
 simp[IntKind.wrap,IntKind.bits,IntKind.signed];omega
theorem vA{l:List Pr}(h:MC l≠[]):l.length≠0:=λe=>h (by rw[AC e];rfl)
theorem ai{l:List Y}(h:l.map Value.string≠[]):l.length≠0:=λe=>h (by rw[AC e];rfl)
def B7(v d:Nb)(c:List Y)(U L:Int)(f:Nc):Prop:=∃(a:Nat) (b:M6) (e:Nat),f=Mv a 0/\Row d a [.slice b c.length e,.int .i64 U,.int .i64 L]/\v.heap.size<=a/\OwnS d b (c.map Value.string)/\(∀g,blk b c.length=some g->v.heap.size<=g)/\Below v.heap.size v d
theorem Ft(a:M6)(i:List Y)(c:Nat)(P:M6)(z:List (Int×Y))(X:Nat)(n:Int)(w:Nb)(h:Strs w a i)(h':Wrs w P z)(hl:i.length<=1048576)(cN:z.length<=1048576)(hs:∀s∈i,s.size<=1048576)(cP:∀x∈z,x.2.size<=1048576):Calls prog 128 #[LF a i.length c P z.length X,.int .i64 n] w λx w'=>UH w w' x (OP i z n):=by
 have e:=Z (λ(A:Nb) S m=>NG a i c P z X A S m hl cN hs cP);obtain⟨D,d⟩:∃D,Hid (D=OP i z n):=⟨_,Z rfl⟩;rw[<-d.l];unfold LF;go_enter func128,ntmps128;go_upto_region 1 with fail;generalize b:w.alloc _=v1;obtain⟨g,l,k⟩:=LY b;clear b;generalize f:v1.alloc _=v2;obtain⟨j,o,b⟩:=LY f;clear f;rw[l]at b;have f:StB w v2 [.slice a i.length c,.slice P z.length X] (λ_=>True):=⟨g.j (j.z g.size),(k.I j).q,b.q,LQ (λ_=>trivial)⟩;have r:w.heap.size+1<v2.heap.size:=b.q.lt;clear g j k b l o;have l:=f.r1.y 0;have g:=f.r1.y 1;have b:=f.r1.lt;unfold LF at e;go_wp2_with fail;clear l g b;refine(e.l _ (h.I f.e) (h'.I f.e)).z ?_;rintro x v3 ⟨rfl,b⟩;replace f:=f.I b;clear b r e
 cases hok:LE i z with
 | false =>
  obtain rfl:D=LX 1:=d.l.j (gh (λk=>by rw[hok]at k;exact absurd k.1 σ));go_upto_region 2 with fail;refine f.noR 1 _ _ rfl γ rfl rfl rfl rfl (λy b G=>?_)
  try simp only[PS]
  clear f
  try go_wp2
  refine UF 4 results128 _ ?_ b ?_ G.l<;>rfl
 | true =>
 by_cases hn:1<=n/\n<=8
 case neg =>
  have hd:=AI hn;obtain rfl:D=LX 1:=d.l.j (gh (λk=>hn k.2));go_upto_region 2 with (go_at_call 21;refine(RO _ _).z ?_;rw[hd];refine OJ ?_);refine f.noR 1 _ _ rfl γ rfl rfl rfl rfl (λy b G=>?_)
  try simp only[PS]
  clear f
  try go_wp2
  refine UF 4 results128 _ ?_ b ?_ G.l<;>rfl
 have g:=AH hok hn;have hd:=AL hn;have hg:=br g;have cS:=mh g;obtain⟨⟨eQ,eT,eU⟩,_,_⟩:=LK g.1;have hQ:=QM (S:=(i.length:Int)) ω;obtain⟨T,H,F,R,l⟩:∃T H F R,NJ i z n=(T,H,F,R):=⟨_,_,_,_,rfl⟩;obtain⟨C,U,L,o⟩:∃C U L,PB i z n=(C,U,L):=⟨_,_,_,rfl⟩;have p:TQ i z (2+H*hv i.length) (hv i.length) F R n=(C,U,L):=by rw[<-o];unfold PB;rw[l]
 rw[l]at hg;rw[o]at cS;unfold WL at hg;simp only at hg cS;obtain⟨j,hH,hF,hR⟩:=hg;obtain⟨hU,hL,eP,b⟩:=cS;have eG:=Z b;clear b;have bU:=Z (λA S m=>Fa a i c P z X n A S m hl cN hs cP);rw[l]at bU;simp only[vg]at bU;have aN:=Z (λA S m=>(Mj a i c P z X (2+H*hv i.length) (hv i.length) F R n A S m hl cN hs cP).z (λe q b=>qI b));rw[p]at aN;simp only[vh]at aN;have HH:=Z (λA=>WY (i.length:Int) A);have HB:=Z (λA=>qy (i.length:Int) H hH.1 hH.2 A);have dH:=Z (λO cx A S=>Gv O C cx A S ω (λe b=>by have:=eG.l e b;omega));unfold oh MH at dH;have aF:=Z g;have m:=Z l;have b:=Z o;clear g l o p
 have eC:Hid (NX C []=none->D=LX 2):=λv=>d.l.j (vu aF.l b.l v)
 have eF:Hid (∀o,NX C []=some o->60000<L+1->D=LX 3):=λo v h4=>d.l.j (xu aF.l b.l v h4)
 have cW:Hid (∀o,NX C []=some o->¬60000<L+1->hv i.length-1<MJ (MD o) n->D=LX 4):=λo v h4 h5=>d.l.j (tp aF.l b.l v h4 h5)
 have cZ:Hid (∀o,NX C []=some o->¬60000<L+1->¬hv i.length-1<MJ (MD o) n->hv i.length<=U->D=PM n i.length (L+1) T H F o):=λo v h4 h5 h6=>d.l.j (jw aF.l m.l b.l v h4 h5 h6)
 have bZ:Hid (∀o,NX C []=some o->¬60000<L+1->¬hv i.length-1<MJ (MD o) n->¬hv i.length<=U->D=⟨0,n,i.length,L+1,T,H,F,R,U+1,0,o,[(false,2+H*hv i.length+U,MM 3 (L+1) (F+U) empty n),(true,0,empty)]⟩):=λo v h4 h5 h6=>d.l.j (kf aF.l m.l b.l v h4 h5 h6)
 have dM:Hid (∀o,¬60000<L+1->¬hv i.length-1<MJ (MD o) n->XI n i.length (L+1) T H F o):=λo h4 h5=>⟨aF.l.2,ω,ω,j,hH,hF,ω⟩
 clear m b d;obtain⟨Q,HQ⟩:∃Q,Hid (Q=hv i.length):=⟨_,Z rfl⟩;obtain⟨q,b⟩:∃q,q=2+H*Q:=⟨_,rfl⟩;rw[<-HQ.l]at hQ hU aN HH HB cW cZ bZ dM;rw[<-b]at aN HB bZ;have eV:2<=q/\q<=101:=by have:=na hH (q:=Q) ω;omega
 clear b;have fB:IntKind.i64.wrap (Q-1)=Q-1:=XH _ ω ω;have fA:IntKind.i64.wrap (L+1)=L+1:=XH _ ω ω;have fC:IntKind.i64.wrap (U+1)=U+1:=XH _ ω ω;have eZ:IntKind.i64.wrap (F+U)=F+U:=XH _ ω ω;have fE:IntKind.i64.wrap (q+U)=q+U:=XH _ ω ω;have l:=f.r1.y 0;have g:=f.r1.y 1;have b:=f.r1.lt;unfold LF at bU aN
 go_wp2_with (first|(go_at_call 21;refine(RO _ _).z ?_;rw[hd];refine OJ ?_)|(go_at_call 78;refine(HH.l _).z ?_;refine OJ ?_))
 clear l g b;refine(bU.l _ (h.I f.e) (h'.I f.e)).z ?_;rintro x v4 ⟨rfl,b⟩;replace f:=f.I b;clear b;go_upto_region 6 with fail;generalize g:v4.alloc _=E;obtain⟨b,m,d⟩:=LY g;clear g;obtain⟨BR,l⟩:∃k,k=v4.heap.size:=⟨_,rfl⟩;rw[<-l]at d⊢;have p:=d.q;replace f:=f.I b;clear b d m l;go_cut [8] from 30 to 41 (λK A=>B7 E A C U L K)
 case first =>
  have dD:=(AB E.heap.size E).drew;refine VS (13) (S:=λw'=>Row w' w.heap.size [.slice a i.length c,.slice P z.length X]/\Row w' BR [.int .i64 T,.int .i64 H,.int .i64 F,.int .i64 R]) κ (⟨f.r1.I dD,p.I dD⟩) (λu=>?_);refine OZ 0 (.agg #[.slice a i.length c,.slice P z.length X]) rfl (BO ⟨ρ,λw t=>by obtain⟨J,B⟩:=t;have c:=J.y 0;have d:=J.y 1;have l:=J.lt;go_simp⟩) u (NN 1 (.int .i64 (i.length:Int)) rfl u (OZ 2 (Mv BR 1) rfl (BO ⟨ρ,λw t=>by obtain⟨J,B⟩:=t;have l:=B.lt;go_simp⟩) u (OZ 3 (.int .i64 H) rfl (BO ⟨ρ,λw t=>by obtain⟨J,B⟩:=t;have c:=B.y 1;go_simp⟩) u (NN 5 (.int .i64 Q) rfl u (OZ 6 (Mv BR 2) rfl (BO ⟨ρ,λw t=>by obtain⟨J,B⟩:=t;have l:=B.lt;go_simp⟩) u (OZ 7 (.int .i64 F) rfl (BO ⟨ρ,λw t=>by obtain⟨J,B⟩:=t;have c:=B.y 2;go_simp⟩) u (OZ 8 (Mv BR 3) rfl (BO ⟨ρ,λw t=>by obtain⟨J,B⟩:=t;have l:=B.lt;go_simp⟩) u (OZ 9 (.int .i64 R) rfl (BO ⟨ρ,λw t=>by obtain⟨J,B⟩:=t;have c:=B.y 3;go_simp⟩) u (NN 10 (.int .i64 n) rfl u ?_)))))))))
  simp only[PS];refine RT (rs:=[4,12]) κ σ ?_;refine AllReadyT.cons rfl (λN s=>?_) (AllReadyT.cons rfl (λN s=>?_) AllReadyT.nil)
  focus
   refine LW ρ 183 #[.int .i64 (i.length:Int),.int .i64 H] γ (HB.l _) ?_;rintro e G ⟨rfl,b⟩;refine⟨_,rfl,?_⟩;rw[b];clear b G;refine s.l _ _ u (λ_=>?_)
   try simp only[PS]
   refine RT (rs:=[11,12]) κ σ ?_;refine AllReadyT.cons rfl (λN s=>?_) (AllReadyT.cons rfl (λN s=>?_) AllReadyT.nil)
   focus
    obtain⟨V,b⟩:∃y,y=E.drew:=⟨_,rfl⟩;rw[<-b];have j:Below E.heap.size E V:=by rw[b];exact(AB _ _).drew
    clear b;have r:=f.e.j (j.z f.e.size);refine LW ρ 182 #[.agg #[.slice a i.length c,.slice P z.length X],.int .i64 q,.int .i64 Q,.int .i64 F,.int .i64 R,.int .i64 n] γ (aN.l _ (h.I r) (h'.I r)) ?_;rintro e aS ⟨O,cx,rfl,W,aM,b⟩;refine⟨_,rfl,?_⟩;have dX:=LS (lo:=V.heap.size) W ai aM
    have cM:∀g,blk O C.length=some g->E.heap.size<=g:=λg k=>AK j.size (aM g k)
    replace j:=j.j (b.z j.size);clear b W r;refine s.l _ _ (⟨f.r1.I j,p.I j⟩) (λcC=>?_)
    try simp only[PS]
    refine PH 12 rfl (λN s=>?_);go_simp;generalize I:World.alloc _ _=bR;obtain⟨b,aU,G⟩:=LY I;obtain⟨M,r⟩:∃k,k=aS.heap.size:=⟨_,rfl⟩;rw[<-r]at G⊢;have bW:E.heap.size<=M:=by rw[r];exact j.size
    have m:=G.q;have tX:aS.heap.size<=M:=by rw[r];exact AA _
    replace dX:=dX.I b;replace j:=j.j (b.z j.size);clear b G aU r I;refine s.l _ _ (⟨f.r1.I j,p.I j⟩) (λaR=>?_)
    try simp only[PS]
    obtain⟨yz,rfl⟩:∃y,y=bR:=⟨_,rfl⟩;have dU:=aR
   rotate_left
   focus
    obtain⟨V,b⟩:∃y,y=E.drew:=⟨_,rfl⟩;rw[<-b];have j:Below E.heap.size E V:=by rw[b];exact(AB _ _).drew
    clear b;go_simp;generalize I:World.alloc _ _=bR;obtain⟨b,aU,G⟩:=LY I;obtain⟨M,r⟩:∃k,k=V.heap.size:=⟨_,rfl⟩;rw[<-r]at G⊢;have bW:E.heap.size<=M:=by rw[r];exact j.size
    have m:=G.q;replace j:=j.j (b.z j.size);clear b G aU r I;refine s.l _ _ (⟨f.r1.I j,p.I j⟩) (λeI=>?_)
    try simp only[PS]
    refine PH 11 rfl (λN s=>?_);have r:=f.e.j (j.z f.e.size);refine LW ρ 182 #[.agg #[.slice a i.length c,.slice P z.length X],.int .i64 q,.int .i64 Q,.int .i64 F,.int .i64 R,.int .i64 n] γ (aN.l _ (h.I r) (h'.I r)) ?_;rintro e aS ⟨O,cx,rfl,W,aM,b⟩;refine⟨_,rfl,?_⟩;have dX:=LS (lo:=bR.heap.size) W ai aM
    have cM:∀g,blk O C.length=some g->E.heap.size<=g:=λg k=>AK j.size (aM g k)
    have lX:=m.lt;replace m:=m.I b;replace j:=j.j (b.z j.size);clear b W r;refine s.l _ _ (⟨f.r1.I j,p.I j⟩) (λcE=>?_)
    try simp only[PS]
    obtain⟨yz,rfl⟩:∃y,y=aS:=⟨_,rfl⟩;have dU:=cE
  rotate_left 2
  focus
   obtain⟨V,b⟩:∃y,y=E.drew:=⟨_,rfl⟩;rw[<-b];have j:Below E.heap.size E V:=by rw[b];exact(AB _ _).drew
   clear b;go_simp;generalize I:World.alloc _ _=bR;obtain⟨b,aU,G⟩:=LY I;obtain⟨M,r⟩:∃k,k=V.heap.size:=⟨_,rfl⟩;rw[<-r]at G⊢;have bW:E.heap.size<=M:=by rw[r];exact j.size
   have m:=G.q;replace j:=j.j (b.z j.size);clear b G aU r I;refine s.l _ _ (⟨f.r1.I j,p.I j⟩) (λcF=>?_)
   try simp only[PS]
   refine PH 4 rfl (λN s=>?_);refine LW ρ 183 #[.int .i64 (i.length:Int),.int .i64 H] γ (HB.l _) ?_;rintro e G ⟨rfl,b⟩;refine⟨_,rfl,?_⟩;rw[b];clear b G;refine s.l _ _ cF (λ_=>?_)
   try simp only[PS]
   refine PH 11 rfl (λN s=>?_);have r:=f.e.j (j.z f.e.size);refine LW ρ 182 #[.agg #[.slice a i.length c,.slice P z.length X],.int .i64 q,.int .i64 Q,.int .i64 F,.int .i64 R,.int .i64 n] γ (aN.l _ (h.I r) (h'.I r)) ?_;rintro e aS ⟨O,cx,rfl,W,aM,b⟩;refine⟨_,rfl,?_⟩;have dX:=LS (lo:=bR.heap.size) W ai aM
   have cM:∀g,blk O C.length=some g->E.heap.size<=g:=λg k=>AK j.size (aM g k)
   have lX:=m.lt;replace m:=m.I b;replace j:=j.j (b.z j.size);clear b W r;refine s.l _ _ (⟨f.r1.I j,p.I j⟩) (λcH=>?_)
   try simp only[PS]
   obtain⟨yz,rfl⟩:∃y,y=aS:=⟨_,rfl⟩;have dU:=cH
  all_goals
   refine RT (rs:=[13]) κ σ ?_;refine AllReadyT.last rfl (λN s=>?_);obtain⟨W,l1,r⟩:=m.k3;obtain⟨b,G,I⟩:=m.z3;have ll:=m.lt;go_simp;clear W l1 r b G I ll;refine s.l _ _ trivial (λ_=>?_)
   try simp only[PS]
   refine UY κ ?_ _;have G:=QC (QC (QC (BY yz (some M)) 0 (.slice O C.length cx)) 1 (.int .i64 U)) 2 (.int .i64 L);have I:=((m.set 0 σ (.slice O C.length cx)).set 1 σ (.int .i64 U)).set 2 σ (.int .i64 L)
   have b:=dX.J G (λg e=>by cases e;first|(left;omega)|(right;omega))
   have r:=j.j (NR G j.size (λx e=>by have e:=CE e;omega));generalize W:World.setCell (World.setCell (World.setCell _ _ _) _ _) _ _=yC at I b r⊢;clear W G;go_wp2_with fail;go_meet;exact⟨M,O,cx,rfl,I,bW,b.q,cM,r⟩
 case rest =>
 obtain⟨M,O,cx,rfl,m,bW,W,aM,b⟩:=hcut
 rename World=>v6
 replace f:=f.I b;replace p:=p.I b;clear b;have l:=m.y 0;have b:=m.lt;go_wp2_with fail;clear l b;have l:=Z (dH.l _ cx _ W.strs)
 cases v:NX C [] with
 | none =>
  obtain rfl:D=LX 2:=eC.l v;rw[v]at l;simp only[JP,JC,AR]at l;clear v;refine(l.l).z ?_;rintro e K ⟨V,c6,rfl,_,_,_,b⟩;replace f:=f.I b;clear b;go_upto_region 8 with fail;generalize s:K.alloc _=v8;obtain⟨b,y,u⟩:=LY s;clear s y u;replace f:=f.I b;clear b;go_upto_region 9 with fail;refine f.noR 2 _ _ rfl γ rfl rfl rfl rfl (λy b G=>?_)
  try simp only[PS]
  clear f
  try go_wp2
  refine UF 4 results128 _ ?_ b ?_ G.l<;>rfl
 | some o =>
  rw[v]at l;simp only[GZ,JD]at l;have d:=dx C [] UG o v;have b:=VC d;have dN:=Z b.2;have eX:=b.1;have bY:=Z (eF.l o v);have aW:=Z (cW.l o v);have aX:=Z (cZ.l o v);have aY:=Z (bZ.l o v);have aZ:=Z (dM.l o);have I:=Z (λB J A S=>pn B o J n A S ω dN.l);have eK:=bp (MD o) n;have eY:=YX o;obtain⟨r,eH⟩:∃r,Hid (r=MJ (MD o) n):=⟨_,Z rfl⟩;rw[<-eH.l]at I eK aW aX aY aZ;clear v b d;refine(l.l).z ?_;rintro e K ⟨V,c6,rfl,eJ,s,eB,b⟩;have d:=LS (lo:=v6.heap.size) s vA eB
  have eL:∀g,blk V o.length=some g->g<K.heap.size:=λg k=>ZK s k
  have l6:=f.r2.lt;have fF:v6.heap.size<=K.heap.size:=b.size;replace f:=f.I b;replace m:=m.I b;replace p:=p.I b;clear b s l;go_upto_region 8 with fail;generalize s:K.alloc _=v8;obtain⟨b,y,u⟩:=LY s;clear s;obtain⟨B8,l⟩:∃k,k=K.heap.size:=⟨_,rfl⟩;rw[<-l]at u⊢;have s:=u.q;replace f:=f.I b;replace m:=m.I b;replace p:=p.I b;replace d:=d.I b;clear b u y l;have N:=m.y 2;have l:=m.lt
  by_cases h4:60000<L+1
  case pos =>
   obtain rfl:D=LX 3:=bY.l ω;go_upto_region 11 with fail;refine f.noR 3 _ _ rfl γ rfl rfl rfl rfl (λy b G=>?_)
   try simp only[PS]
   clear f
   try go_wp2
   refine UF 4 results128 _ ?_ b ?_ G.l<;>rfl
  have eM:L+1<=60000:=ω
  have b:=s.y 0;have v:=s.lt;go_wp2_with fail;clear N l b v;refine(I.l _ _ _ d.q.prs).z ?_;rintro e va ⟨rfl,b⟩;replace f:=f.I b;replace m:=m.I b;replace p:=p.I b;replace s:=s.I b;replace d:=d.I b;clear b I
  by_cases h5:Q-1<r
  case pos =>
   obtain rfl:D=LX 4:=aW.l ω ω;go_upto_region 13 with fail;refine f.noR 4 _ _ rfl γ rfl rfl rfl rfl (λy b G=>?_)
   try simp only[PS]
   clear f
   try go_wp2
   refine UF 4 results128 _ ?_ b ?_ G.l<;>rfl
  have eN:r<=Q-1:=ω
  have u:=m.y 1;have N:=m.y 2;have l:=m.lt;obtain⟨I,t1,y,t3⟩:=p.k4;have G:=p.lt;have b:=s.y 0;have v:=s.lt;go_upto_region 15 with fail;clear u N l I t1 y t3 G b v;generalize l:va.alloc _=v9;obtain⟨b,y,u⟩:=LY l;clear l;obtain⟨B9,l⟩:∃k,k=va.heap.size:=⟨_,rfl⟩;rw[<-l]at u⊢;have v:Row v9 B9 (sJ n (i.length:Int) (L+1) T H F R U 0 (.slice V o.length c6)):=u.q;have l9:K.heap.size<=B9:=by rw[l];exact d.top
  have fH:M<B9:=by rw[l];exact m.lt
  have fG:BR<B9:=by rw[l];exact p.lt
  replace f:=f.I b;replace d:=d.I b;replace m:=m.I b;replace p:=p.I b;clear b u y s l;have fI:K.heap.size<=v9.heap.size:=d.top;have u:=m.y 1;have l:=m.lt
  by_cases h6:Q<=U
  case pos =>
   have s:=Z (λB J A S=>vC n i.length (L+1) T H F R U 0 B o J A S ω dN.l (aZ.l ω ω));have b:D=PM n i.length (L+1) T H F o:=aX.l ω ω ω;rw[<-b]at s;unfold NK at s;clear b;go_upto_region 16 with fail;clear u l;refine BE ?_;refine AS rfl 33 _ rfl B9 0 rfl _ _ v.range underlying33 rfl QI ?_;simp only[PS];go_wp2_with fail;refine(s.l _ _ _ d.q.prs).z ?_;rintro e vc ⟨B,N,J,S,rfl,cL,own,g1,g2,b⟩;have lb:=b.size;replace f:=f.I b;clear b s;unfold NZ
   try simp only[PS]
   refine‹∀(a:Act) (w:Nb),wpList _ _ _ _ a w->_› _ _ ?_
   refine BI rfl 99 _ _ rfl (w.heap.size+1) 0 (dK D.C D.W D.S D.L D.T D.H D.F D.R D.U D.O (.slice B D.rs.length N) (.slice J D.ops.length S)) rfl rfl (f.r2.there rfl) UB κ ?_
   try simp only[PS]
   obtain⟨b,y⟩:=f.fin D B N J S cL own (λg k=>by have:=g1 g k;omega) (λg k=>by have:=g2 g k;omega);have G:=Z y;clear y;generalize I:World.setCells _ _ _ _=y at b G⊢;clear I f
   try go_wp2
   refine UF 4 results128 _ ?_ b ?_ G.l<;>rfl
  have eO:U<Q:=ω
  have dL:=Z (λA=>aq 3 (L+1) (F+U) empty n A δ);have dQ:=aY.l ω ω ω;obtain⟨S,b⟩:∃S,S=MM 3 (L+1) (F+U) empty n:=⟨_,rfl⟩;rw[<-b]at dL dQ;subst dQ;clear b;have s:=v.y 7;have y:=v.A 7;have b:=v.lt;go_upto_region 18 with fail;clear s y b u l;have G:=QC (BY v9 (some B9)) 7 (.int .i64 (U+1));replace v:Row _ B9 (sJ n (i.length:Int) (L+1) T H F R (U+1) 0 (.slice V o.length c6)):=v.set 7 σ (.int .i64 (U+1));replace d:=d.J G (λg e=>by cases e;omega);replace f:=f.aside G ω;replace m:=m.J G (λe=>by injection e with e;omega);replace p:=p.J G (λe=>by injection e with e;omega);generalize b:World.setCell _ _ _=vb at v d f m p⊢;clear b G;have u:=m.y 1;have l:=m.lt;have y:=p.y 2;have G:=p.lt;have s:=v.y 2;have b:=v.lt
  go_wp2_with fail;clear u l y G s b;refine(dL.l _).z ?_;rintro e vc ⟨rfl,b⟩;replace f:=f.I b;replace m:=m.I b;replace p:=p.I b;replace v:=v.I b;replace d:=d.I b;have fJ:K.heap.size<=vc.heap.size:=d.top;clear b;go_upto_region 19 with fail;have dD:=(AB vc.heap.size vc).drew;refine VS (13) (S:=λw'=>Row w' B9 (sJ n (i.length:Int) (L+1) T H F R (U+1) 0 (.slice V o.length c6))/\Row w' BR [.int .i64 T,.int .i64 H,.int .i64 F,.int .i64 R]/\Row w' M [.slice O C.length cx,.int .i64 U,.int .i64 L]) κ (⟨v.I dD,p.I dD,m.I dD⟩) (λu=>?_);refine OZ 0 (.agg (sK n (i.length:Int) (L+1) T H F R (U+1) 0 (.slice V o.length c6))) rfl (BO ⟨ρ,λw t=>by obtain⟨J,B,z2⟩:=t;exact LJ 33 _ rfl _ 0 rfl _ _ J.range underlying33 rfl QI⟩) u (NN 1 (.int .i64 (i.length:Int)) rfl u (OZ 2 (Mv BR 1) rfl (BO ⟨ρ,λw t=>by obtain⟨J,B,z2⟩:=t;have l:=B.lt;go_simp⟩) u (OZ 3 (.int .i64 H) rfl (BO ⟨ρ,λw t=>by obtain⟨J,B,z2⟩:=t;have c:=B.y 1;go_simp⟩) u (OZ 5 (Mv M 1) rfl (BO ⟨ρ,λw t=>by obtain⟨J,B,z2⟩:=t;have l:=z2.lt;go_simp⟩) u (OZ 6 (.int .i64 U) rfl (BO ⟨ρ,λw t=>by obtain⟨J,B,z2⟩:=t;have c:=z2.y 1;go_simp⟩) u (NN 8 (Mz S) rfl u (NN 10 (.agg #[M0 true,.int .i64 0,Mz ⟨#[]⟩]) rfl u ?_)))))))
  simp only[PS];refine PH 4 rfl (λN s=>?_);refine LW ρ 183 #[.int .i64 (i.length:Int),.int .i64 H] γ (HB.l _) ?_;rintro e G ⟨rfl,b⟩;refine⟨_,rfl,?_⟩;rw[b];clear b G;refine s.l _ _ u (λ_=>?_)
  try simp only[PS]
  refine NN 7 (.int .i64 (q+U)) rfl u ?_;simp only[PS];refine PH 9 rfl (λN s=>?_);refine LW ρ 186 #[.int .i64 (q+U),Mz S] γ (ii _ _ _) ?_;rintro e y9 ⟨rfl,b⟩;refine⟨_,rfl,?_⟩;replace b:=dD.j (b.z dD.size);replace f:=f.I b;replace v:=v.I b;replace m:=m.I b;replace p:=p.I b;replace d:=d.I b;have hv:=b.size;clear b;refine s.l _ _ (⟨v,p,m⟩) (λcC=>?_)
  try simp only[PS]
  refine PH 11 rfl (λN s=>?_);go_simp;generalize I:World.alloc _ _=aS;obtain⟨b,aU,t⟩:=LY I;obtain⟨B4,y⟩:∃k,k=y9.heap.size:=⟨_,rfl⟩;rw[<-y]at t⊢;have r4:=t.q;have l4:K.heap.size<=B4:=ω
  replace f:=f.I b;replace v:=v.I b;replace m:=m.I b;replace p:=p.I b;replace d:=d.I b;clear b t aU y I;refine s.l _ _ (⟨v,p,m⟩) (λaR=>?_)
  try simp only[PS]
  refine NN 12 (.agg (dK 0 n (i.length:Int) (L+1) T H F R (U+1) 0 (.slice V o.length c6) (.slice (Mw B4 0) 2 2))) rfl aR ?_;simp only[PS];refine RT (rs:=[13]) κ σ ?_;refine AllReadyT.last rfl (λN s=>?_);refine LH rfl 99 _ _ rfl (w.heap.size+1) 0 (dK 0 n (i.length:Int) (L+1) T H F R (U+1) 0 (.slice V o.length c6) (.slice (Mw B4 0) 2 2)) rfl rfl (f.r2.there rfl) UB κ ?_;refine s.l _ _ trivial (λ_=>?_)
  try simp only[PS]
  refine UY κ ?_ _;obtain⟨b,y⟩:=f.fin ⟨0,n,i.length,L+1,T,H,F,R,U+1,0,o,[(false,q+U,S),(true,0,empty)]⟩ V c6 (Mw B4 0) 2 eJ ⟨d.q,.inr ⟨B4,rfl,r4⟩,ZJ (N:=K.heap.size) eL (λg k=>by have:=QJ k;omega)⟩ (λg k=>by have:=eB g k;omega) (λg k=>by have:=QJ k;omega);have G:=Z y;clear y;generalize I:World.setCells _ _ _ _=y at b G⊢;clear I f
  try go_wp2
  refine UF (D:=⟨0,n,i.length,L+1,T,H,F,R,U+1,0,o,[(false,q+U,S),(true,0,empty)]⟩) 4 results128 (a:=V) (c:=c6) (b:=Mw B4 0) (e:=2) _ ?_ b ?_ G.l<;>rfl
