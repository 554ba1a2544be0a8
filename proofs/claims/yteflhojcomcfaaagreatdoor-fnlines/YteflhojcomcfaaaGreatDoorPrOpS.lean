import Derived.Test.YteflhojcomcfaaaGreatDoorPrG34
import Derived.Test.YteflhojcomcfaaaGreatDoorPrMvS
import Derived.Test.YteflhojcomcfaaaGreatDoorPrScS
set_option maxHeartbeats 16000000
namespace Go.Proofs.YteflhojcomcfaaaGreatDoor
open _root_.ByteArray(empty)
open Tryz
open Go.RowKit
set_option linter.all false
set_option maxRecDepth 8000
theorem bh(x:Int)(a:-9223372036854775808<=x)(b:x<=9223372036854775807):IntKind.i64.wrap x=x:=by
 simp[IntKind.wrap,IntKind.bits,IntKind.signed];omega
theorem pC{l:List Pr}(h:LS l≠[]):l.length≠0:=λe=>h (by rw[AD e];rfl)
theorem jd{l:List Q4}(h:l.map Value.string≠[]):l.length≠0:=λe=>h (by rw[AD e];rfl)
def Hm(v d:Q9)(c:List Q4)(U L:Int)(f:Ra):Prop:=∃(a:Nat) (b:Q5) (e:Nat),f=Dr a 0/\Row d a [Y b c.length e,Z U,Z L]/\v.heap.size<=a/\OwnS d b (c.map Value.string)/\(∀g,blk b c.length=some g->v.heap.size<=g)/\Q3 v d
theorem wY(a:Q5)(v:List Q4)(c:Nat)(l:Q5)(P:List (Int×Q4))(c':Nat)(n:Int)(w:Q9)(o:Strs w a v)(h':Wrs w l P)(hl:v.length<=1048576)(cM:P.length<=1048576)(hs:∀s∈v,s.size<=1048576)(cO:∀m∈P,m.2.size<=1048576):Calls prog 107 #[LR a v.length c l P.length c',Z n] w λm w'=>VZ w w' m (OL v P n):=by
 have k:=LE (λ(S:Q9) k1 B=>ZX a v c l P c' S k1 B hl cM hs cO);obtain⟨i,g⟩:=nHz (OL v P n);rw[<-g.j];unfold LR;go_enter func107,ntmps107;go_upto_region 1 with fail;generalize e:w.alloc _=v1;obtain⟨p,A,r⟩:=LP e;clear e;generalize s:v1.alloc _=v2;obtain⟨q,E,e⟩:=LP s;clear s;rw[A]at e;have t:StB w v2 [Y a v.length c,Y l P.length c'] (λ_=>True):=⟨p.E (q.J p.size),(r.I q).q,e.q,XP (λ_=>trivial)⟩;have y:w.heap.size+1<v2.heap.size:=e.q.lt;clear p q r e A E;have r:=t.r1.y 0;have s:=t.r1.y 1;have p:=t.r1.lt;unfold LR at k;go_wp2_with fail;clear r s p;refine(k.j _ (o.I t.e) (h'.I t.e)).J ?_;rintro m v3 ⟨rfl,s⟩;replace t:=t.I s;clear s y k
 cases hok:LT v P with
 | false =>
  obtain rfl:i=LO 1:=g.j.E (nh (λk=>by rw[hok]at k;exact absurd k.1 σ));go_upto_region 2 with fail;refine t.noR 1 _ _ z γ z z z z (λy s G=>?_)
  try simp only[PS]
  clear t
  try go_wp2
  refine VY 4 results107 _ ?_ s ?_ G.j<;>rfl
 | true =>
 by_cases hn:1<=n/\n<=8
 case neg =>
  have hd:=AH hn;obtain rfl:i=LO 1:=g.j.E (nh (λk=>hn k.2));go_upto_region 2 with (go_at_call 43;refine(RZ _ _).J ?_;rw[hd];refine OF ?_);refine t.noR 1 _ _ z γ z z z z (λy s G=>?_)
  try simp only[PS]
  clear t
  try go_wp2
  refine VY 4 results107 _ ?_ s ?_ G.j<;>rfl
 have q:=AG hok hn;have hd:=AM hn;have hg:=mb q;have cQ:=ue q;obtain⟨⟨eM,eO,eP⟩,_,_⟩:=QH q.1;have hQ:=QS (S:=(v.length:Int)) d;obtain⟨T,H,F,R,r⟩:∃T H F R,NJ v P n=(T,H,F,R):=⟨_,_,_,_,z⟩;obtain⟨W,U,L,s⟩:∃W U L,OZ v P n=(W,U,L):=⟨_,_,_,z⟩;have E:VW v P (2+H*hv v.length) (hv v.length) F R n=(W,U,L):=by rw[<-s];unfold OZ;rw[r]
 rw[r]at hg;rw[s]at cQ;unfold ZM at hg;simp only at hg cQ;obtain⟨A,hH,hF,hR⟩:=hg;obtain⟨hU,hL,eL,e⟩:=cQ;have dZ:=LE e;clear e;have bQ:=LE (λS k1 B=>J0 a v c l P c' n S k1 B hl cM hs cO);rw[r]at bQ;simp only[nV]at bQ;have aN:=LE (λS k1 B=>(Qo a v c l P c' (2+H*hv v.length) (hv v.length) F R n S k1 B hl cM hs cO).J (λe y p=>wI p));rw[E]at aN;simp only[nW]at aN;have HH:=LE (λS=>ZA (v.length:Int) S);have HB:=LE (λS=>yf (v.length:Int) H hH.1 hH.2 S);have cY:=LE (λb cx S k1=>Ll b W cx S k1 d (λe p=>by have:=dZ.j e p;omega));unfold vx LX at cY;have aF:=LE q;have y:=LE r;have p:=LE s;clear q r s E
 have dU:Hid (OU W []=none->i=LO 2):=λO=>g.j.E (oJ aF.j p.j O)
 have dV:Hid (∀E,OU W []=some E->60000<L+1->i=LO 3):=λE O h4=>g.j.E (pF aF.j p.j O h4)
 have cW:Hid (∀E,OU W []=some E->¬60000<L+1->hv v.length-1<MY (NC E) n->i=LO 4):=λE O h4 h5=>g.j.E (mH aF.j p.j O h4 h5)
 have cX:Hid (∀E,OU W []=some E->¬60000<L+1->¬hv v.length-1<MY (NC E) n->hv v.length<=U->i=PU n v.length (L+1) T H F E):=λE O h4 h5 h6=>g.j.E (xz aF.j y.j p.j O h4 h5 h6)
 have bV:Hid (∀E,OU W []=some E->¬60000<L+1->¬hv v.length-1<MY (NC E) n->¬hv v.length<=U->i=⟨0,n,v.length,L+1,T,H,F,R,U+1,0,E,[(false,2+H*hv v.length+U,NB 3 (L+1) (F+U) empty n),(true,0,empty)]⟩):=λE O h4 h5 h6=>g.j.E (yq aF.j y.j p.j O h4 h5 h6)
 have dB:Hid (∀E,¬60000<L+1->¬hv v.length-1<MY (NC E) n->bi n v.length (L+1) T H F E):=λE h4 h5=>⟨aF.j.2,d,d,A,hH,hF,d⟩
 clear y p g;obtain⟨Q,HQ⟩:=nHz (hv v.length);obtain⟨q,g⟩:=u (2+H*Q);rw[<-HQ.j]at hQ hU aN HH HB cW cX bV dB;rw[<-g]at aN HB bV;have eQ:2<=q/\q<=101:=by have:=uy hH (q:=Q) d;omega
 clear g;have eX:IntKind.i64.wrap (Q-1)=Q-1:=bh _ d d;have eV:IntKind.i64.wrap (L+1)=L+1:=bh _ d d;have eY:IntKind.i64.wrap (U+1)=U+1:=bh _ d d;have eU:IntKind.i64.wrap (F+U)=F+U:=bh _ d d;have eZ:IntKind.i64.wrap (q+U)=q+U:=bh _ d d;have r:=t.r1.y 0;have s:=t.r1.y 1;have p:=t.r1.lt;unfold LR at bQ aN
 go_wp2_with (first|(go_at_call 43;refine(RZ _ _).J ?_;rw[hd];refine OF ?_)|(go_at_call 47;refine(HH.j _).J ?_;refine OF ?_))
 clear r s p;refine(bQ.j _ (o.I t.e) (h'.I t.e)).J ?_;rintro m v4 ⟨rfl,s⟩;replace t:=t.I s;clear s;go_upto_region 6 with fail;generalize p:v4.alloc _=I;obtain⟨s,r,g⟩:=LP p;clear p;obtain⟨BR,y⟩:=u v4.heap.size;rw[<-y]at g⊢;have J:=g.q;replace t:=t.I s;clear s g r y;go_cut [8] from 30 to 41 (λD S=>Hm I S W U L D)
 case first =>
  have dD:=(@AB I.heap.size I).drew;refine WN (13) (S:=λw'=>Row w' w.heap.size [Y a v.length c,Y l P.length c']/\Row w' BR [Z T,Z H,Z F,Z R]) κ (⟨t.r1.I dD,J.I dD⟩) (λN=>?_);refine ME 0 (.agg #[Y a v.length c,Y l P.length c']) z (AT ⟨f,λw M=>by obtain⟨x,V⟩:=M;have c:=x.y 0;have r:=x.y 1;have p:=x.lt;go_simp⟩) N (OK 1 (Z (v.length:Int)) z N (ME 2 (Dr BR 1) z (AT ⟨f,λw M=>by obtain⟨x,V⟩:=M;have p:=V.lt;go_simp⟩) N (ME 3 (Z H) z (AT ⟨f,λw M=>by obtain⟨x,V⟩:=M;have c:=V.y 1;go_simp⟩) N (OK 5 (Z Q) z N (ME 6 (Dr BR 2) z (AT ⟨f,λw M=>by obtain⟨x,V⟩:=M;have p:=V.lt;go_simp⟩) N (ME 7 (Z F) z (AT ⟨f,λw M=>by obtain⟨x,V⟩:=M;have c:=V.y 2;go_simp⟩) N (ME 8 (Dr BR 3) z (AT ⟨f,λw M=>by obtain⟨x,V⟩:=M;have p:=V.lt;go_simp⟩) N (ME 9 (Z R) z (AT ⟨f,λw M=>by obtain⟨x,V⟩:=M;have c:=V.y 3;go_simp⟩) N (OK 10 (Z n) z N ?_)))))))))
  simp only[PS];refine QZ (rs:=[4,12]) κ σ ?_;refine AllReadyT.cons z (λh K=>?_) (AllReadyT.cons z (λh K=>?_) AllReadyT.nil)
  focus
   refine LM f 162 #[Z (v.length:Int),Z H] γ (HB.j _) ?_;rintro e y ⟨rfl,s⟩;refine⟨_,z,?_⟩;rw[s];clear s y;refine K.j _ _ N (λ_=>?_)
   try simp only[PS]
   refine QZ (rs:=[11,12]) κ σ ?_;refine AllReadyT.cons z (λh K=>?_) (AllReadyT.cons z (λh K=>?_) AllReadyT.nil)
   focus
    obtain⟨X,s⟩:=u I.drew;rw[<-s];have A:Q3 I X:=by rw[s];exact(AB).drew
    clear s;have y:=t.e.E (A.J t.e.size);refine LM f 161 #[.agg #[Y a v.length c,Y l P.length c'],Z q,Z Q,Z F,Z R,Z n] γ (aN.j _ (o.I y) (h'.I y)) ?_;rintro e aS ⟨b,cx,rfl,aL,aM,s⟩;refine⟨_,z,?_⟩;have dX:=RX (lo:=X.heap.size) aL jd aM
    have cL:∀g,blk b W.length=some g->I.heap.size<=g:=λg k=>AJ A.size (aM g k)
    replace A:=A.E (s.J A.size);clear s aL y;refine K.j _ _ (⟨t.r1.I A,J.I A⟩) (λcA=>?_)
    try simp only[PS]
    refine OJ 12 z (λh K=>?_);go_simp;generalize C:World.alloc _ _=bJ;obtain⟨s,aU,G⟩:=LP C;obtain⟨j,y⟩:=u aS.heap.size;rw[<-y]at G⊢;have bT:I.heap.size<=j:=by rw[y];exact A.size
    have B:=G.q;have tX:aS.heap.size<=j:=by rw[y];exact AA
    replace dX:=dX.I s;replace A:=A.E (s.J A.size);clear s G aU y C;refine K.j _ _ (⟨t.r1.I A,J.I A⟩) (λaR=>?_)
    try simp only[PS]
    obtain⟨yz,rfl⟩:=u bJ;have dN:=aR
   rotate_left
   focus
    obtain⟨X,s⟩:=u I.drew;rw[<-s];have A:Q3 I X:=by rw[s];exact(AB).drew
    clear s;go_simp;generalize C:World.alloc _ _=bJ;obtain⟨s,aU,G⟩:=LP C;obtain⟨j,y⟩:=u X.heap.size;rw[<-y]at G⊢;have bT:I.heap.size<=j:=by rw[y];exact A.size
    have B:=G.q;replace A:=A.E (s.J A.size);clear s G aU y C;refine K.j _ _ (⟨t.r1.I A,J.I A⟩) (λeE=>?_)
    try simp only[PS]
    refine OJ 11 z (λh K=>?_);have y:=t.e.E (A.J t.e.size);refine LM f 161 #[.agg #[Y a v.length c,Y l P.length c'],Z q,Z Q,Z F,Z R,Z n] γ (aN.j _ (o.I y) (h'.I y)) ?_;rintro e aS ⟨b,cx,rfl,aL,aM,s⟩;refine⟨_,z,?_⟩;have dX:=RX (lo:=bJ.heap.size) aL jd aM
    have cL:∀g,blk b W.length=some g->I.heap.size<=g:=λg k=>AJ A.size (aM g k)
    have lX:=B.lt;replace B:=B.I s;replace A:=A.E (s.J A.size);clear s aL y;refine K.j _ _ (⟨t.r1.I A,J.I A⟩) (λcC=>?_)
    try simp only[PS]
    obtain⟨yz,rfl⟩:=u aS;have dN:=cC
  rotate_left 2
  focus
   obtain⟨X,s⟩:=u I.drew;rw[<-s];have A:Q3 I X:=by rw[s];exact(AB).drew
   clear s;go_simp;generalize C:World.alloc _ _=bJ;obtain⟨s,aU,G⟩:=LP C;obtain⟨j,y⟩:=u X.heap.size;rw[<-y]at G⊢;have bT:I.heap.size<=j:=by rw[y];exact A.size
   have B:=G.q;replace A:=A.E (s.J A.size);clear s G aU y C;refine K.j _ _ (⟨t.r1.I A,J.I A⟩) (λcE=>?_)
   try simp only[PS]
   refine OJ 4 z (λh K=>?_);refine LM f 162 #[Z (v.length:Int),Z H] γ (HB.j _) ?_;rintro e y ⟨rfl,s⟩;refine⟨_,z,?_⟩;rw[s];clear s y;refine K.j _ _ cE (λ_=>?_)
   try simp only[PS]
   refine OJ 11 z (λh K=>?_);have y:=t.e.E (A.J t.e.size);refine LM f 161 #[.agg #[Y a v.length c,Y l P.length c'],Z q,Z Q,Z F,Z R,Z n] γ (aN.j _ (o.I y) (h'.I y)) ?_;rintro e aS ⟨b,cx,rfl,aL,aM,s⟩;refine⟨_,z,?_⟩;have dX:=RX (lo:=bJ.heap.size) aL jd aM
   have cL:∀g,blk b W.length=some g->I.heap.size<=g:=λg k=>AJ A.size (aM g k)
   have lX:=B.lt;replace B:=B.I s;replace A:=A.E (s.J A.size);clear s aL y;refine K.j _ _ (⟨t.r1.I A,J.I A⟩) (λcF=>?_)
   try simp only[PS]
   obtain⟨yz,rfl⟩:=u aS;have dN:=cF
  all_goals
   refine QZ (rs:=[13]) κ σ ?_;refine AllReadyT.last z (λh K=>?_);obtain⟨l0,l1,y⟩:=B.k3;obtain⟨s,G,C⟩:=B.z3;have ll:=B.lt;go_simp;clear l0 l1 y s G C ll;refine K.j _ _ trivial (λ_=>?_)
   try simp only[PS]
   refine VE κ ?_ _;have G:=NZ (NZ (NZ (BC yz (some j)) 0 (Y b W.length cx)) 1 (Z U)) 2 (Z L);have C:=((B.set 0 σ (Y b W.length cx)).set 1 σ (Z U)).set 2 σ (Z L)
   have s:=dX.V G (λg e=>by cases e;first|(left;omega)|(right;omega))
   have y:=A.E (MU G A.size (λm e=>by have e:=BQ e;omega));generalize bZ:World.setCell (World.setCell (World.setCell _ _ _) _ _) _ _=yC at C s y⊢;clear bZ G;go_wp2_with fail;go_meet;exact⟨j,b,cx,z,C,bT,s.q,cL,y⟩
 case rest =>
 obtain⟨j,b,cx,rfl,B,bT,aL,aM,s⟩:=hcut
 rename World=>v6
 replace t:=t.I s;replace J:=J.I s;clear s;have r:=B.y 0;have p:=B.lt;go_wp2_with fail;clear r p;have p:=LE (cY.j _ cx _ aL.strs)
 cases O:OU W [] with
 | none =>
  obtain rfl:i=LO 2:=dU.j O;rw[O]at p;simp only[JS,JH,AU]at p;clear O;refine(p.j).J ?_;rintro e D ⟨a6,c6,rfl,_,_,_,s⟩;replace t:=t.I s;clear s;go_upto_region 8 with fail;generalize y:D.alloc _=v8;obtain⟨s,K,G⟩:=LP y;clear y K G;replace t:=t.I s;clear s;go_upto_region 9 with fail;refine t.noR 2 _ _ z γ z z z z (λy s G=>?_)
  try simp only[PS]
  clear t
  try go_wp2
  refine VY 4 results107 _ ?_ s ?_ G.j<;>rfl
 | some E =>
  rw[O]at p;simp only[GD,JI]at p;have y:=kr W [] YI E O;have s:=XO y;have dF:=LE s.2;have eR:=s.1;have bU:=LE (dV.j E O);have aW:=LE (cW.j E O);have aX:=LE (cX.j E O);have aY:=LE (bV.j E O);have aZ:=LE (dB.j E);have N:=LE (λV C S k1=>xf V E C n S k1 d dF.j);have eG:=jt (NC E) n;have eT:=gi E;obtain⟨r,eB⟩:=nHz (MY (NC E) n);rw[<-eB.j]at N eG aW aX aY aZ;clear O s y;refine(p.j).J ?_;rintro e D ⟨a6,c6,rfl,eF,y,dR,s⟩;have O:=RX (lo:=v6.heap.size) y pC dR
  have eH:∀g,blk a6 E.length=some g->g<D.heap.size:=λg k=>gz y k
  have l6:=t.r2.lt;have fA:v6.heap.size<=D.heap.size:=s.size;replace t:=t.I s;replace B:=B.I s;replace J:=J.I s;clear s y p;go_upto_region 8 with fail;generalize y:D.alloc _=v8;obtain⟨s,K,G⟩:=LP y;clear y;obtain⟨B8,y⟩:=u D.heap.size;rw[<-y]at G⊢;have p:=G.q;replace t:=t.I s;replace B:=B.I s;replace J:=J.I s;replace O:=O.I s;clear s G K y;have X:=B.y 2;have K:=B.lt
  by_cases h4:60000<L+1
  case pos =>
   obtain rfl:i=LO 3:=bU.j d;go_upto_region 11 with fail;refine t.noR 3 _ _ z γ z z z z (λy s G=>?_)
   try simp only[PS]
   clear t
   try go_wp2
   refine VY 4 results107 _ ?_ s ?_ G.j<;>rfl
  have eI:L+1<=60000:=d
  have s:=p.y 0;have y:=p.lt;go_wp2_with fail;clear X K s y;refine(N.j _ _ _ O.q.prs).J ?_;rintro e va ⟨rfl,s⟩;replace t:=t.I s;replace B:=B.I s;replace J:=J.I s;replace p:=p.I s;replace O:=O.I s;clear s N
  by_cases h5:Q-1<r
  case pos =>
   obtain rfl:i=LO 4:=aW.j d d;go_upto_region 13 with fail;refine t.noR 4 _ _ z γ z z z z (λy s G=>?_)
   try simp only[PS]
   clear t
   try go_wp2
   refine VY 4 results107 _ ?_ s ?_ G.j<;>rfl
  have eJ:r<=Q-1:=d
  have N:=B.y 1;have X:=B.y 2;have K:=B.lt;obtain⟨h,t1,G,t3⟩:=J.k4;have x:=J.lt;have s:=p.y 0;have y:=p.lt;go_upto_region 15 with fail;clear N X K h t1 G t3 x s y;generalize y:va.alloc _=v9;obtain⟨s,K,G⟩:=LP y;clear y;obtain⟨B9,y⟩:=u va.heap.size;rw[<-y]at G⊢;have X:Row v9 B9 (sJ n (v.length:Int) (L+1) T H F R U 0 (Y a6 E.length c6)):=G.q;have l9:D.heap.size<=B9:=by rw[y];exact O.top
  have fE:j<B9:=by rw[y];exact B.lt
  have fC:BR<B9:=by rw[y];exact J.lt
  replace t:=t.I s;replace O:=O.I s;replace B:=B.I s;replace J:=J.I s;clear s G K p y;have fF:D.heap.size<=v9.heap.size:=O.top;have N:=B.y 1;have K:=B.lt
  by_cases h6:Q<=U
  case pos =>
   have p:=LE (λV C S k1=>Aj n v.length (L+1) T H F R U 0 V E C S k1 d dF.j (aZ.j d d));have s:i=PU n v.length (L+1) T H F E:=aX.j d d d;rw[<-s]at p;unfold NA at p;clear s;go_upto_region 16 with fail;clear N K;refine AX ?_;refine BE z 44 _ z B9 0 z _ _ X.range underlying44 z QD ?_;simp only[PS];go_wp2_with fail;refine(p.j _ _ _ O.q.prs).J ?_;rintro e vc ⟨V,h,x,oe,rfl,cJ,own,g1,g2,s⟩;have lb:=s.size;replace t:=t.I s;clear s p;unfold MT
   try simp only[PS]
   refine‹∀(a:Act) (w:Q9),wpList _ _ _ _ a w->_› _ _ ?_
   refine BV z 115 _ _ z (w.heap.size+1) 0 (dK i.C i.W i.S i.L i.T i.H i.F i.R i.U i.O (Y V i.rs.length h) (Y x i.ops.length oe)) z z (t.r2.there z) UH κ ?_
   try simp only[PS]
   obtain⟨s,y⟩:=t.fin i V h x oe cJ own (λg k=>by have:=g1 g k;omega) (λg k=>by have:=g2 g k;omega);have G:=LE y;clear y;generalize C:World.setCells _ _ _ _=y at s G⊢;clear C t
   try go_wp2
   refine VY 4 results107 _ ?_ s ?_ G.j<;>rfl
  have eK:U<Q:=d
  have cZ:=LE (λS=>jh 3 (L+1) (F+U) empty n S δ);have dL:=aY.j d d d;obtain⟨FM,p⟩:=u (NB 3 (L+1) (F+U) empty n);rw[<-p]at cZ dL;subst dL;clear p;have s:=X.y 7;have y:=X.A 7;have p:=X.lt;go_upto_region 18 with fail;clear s y p N K;have G:=NZ (BC v9 (some B9)) 7 (Z (U+1));replace X:Row _ B9 (sJ n (v.length:Int) (L+1) T H F R (U+1) 0 (Y a6 E.length c6)):=X.set 7 σ (Z (U+1));replace O:=O.V G (λg e=>by cases e;omega);replace t:=t.aside G d;replace B:=B.V G (λe=>by injection e with e;omega);replace J:=J.V G (λe=>by injection e with e;omega);generalize p:World.setCell _ _ _=vb at X O t B J⊢;clear p G;have N:=B.y 1;have K:=B.lt;have G:=J.y 2;have x:=J.lt;have s:=X.y 2;have p:=X.lt
  go_wp2_with fail;clear N K G x s p;refine(cZ.j _).J ?_;rintro e vc ⟨rfl,s⟩;replace t:=t.I s;replace B:=B.I s;replace J:=J.I s;replace X:=X.I s;replace O:=O.I s;have fG:D.heap.size<=vc.heap.size:=O.top;clear s;go_upto_region 19 with fail;have dD:=(@AB vc.heap.size vc).drew;refine WN (13) (S:=λw'=>Row w' B9 (sJ n (v.length:Int) (L+1) T H F R (U+1) 0 (Y a6 E.length c6))/\Row w' BR [Z T,Z H,Z F,Z R]/\Row w' j [Y b W.length cx,Z U,Z L]) κ (⟨X.I dD,J.I dD,B.I dD⟩) (λN=>?_);refine ME 0 (.agg (sK n (v.length:Int) (L+1) T H F R (U+1) 0 (Y a6 E.length c6))) z (AT ⟨f,λw M=>by obtain⟨x,V,z2⟩:=M;exact SA 44 _ z _ 0 z _ _ x.range underlying44 z QD⟩) N (OK 1 (Z (v.length:Int)) z N (ME 2 (Dr BR 1) z (AT ⟨f,λw M=>by obtain⟨x,V,z2⟩:=M;have p:=V.lt;go_simp⟩) N (ME 3 (Z H) z (AT ⟨f,λw M=>by obtain⟨x,V,z2⟩:=M;have c:=V.y 1;go_simp⟩) N (ME 5 (Dr j 1) z (AT ⟨f,λw M=>by obtain⟨x,V,z2⟩:=M;have p:=z2.lt;go_simp⟩) N (ME 6 (Z U) z (AT ⟨f,λw M=>by obtain⟨x,V,z2⟩:=M;have c:=z2.y 1;go_simp⟩) N (OK 8 (Ow FM) z N (OK 10 (.agg #[Q1 true,Z 0,Ow ⟨#[]⟩]) z N ?_)))))))
  simp only[PS];refine OJ 4 z (λh K=>?_);refine LM f 162 #[Z (v.length:Int),Z H] γ (HB.j _) ?_;rintro e y ⟨rfl,s⟩;refine⟨_,z,?_⟩;rw[s];clear s y;refine K.j _ _ N (λ_=>?_)
  try simp only[PS]
  refine OK 7 (Z (q+U)) z N ?_;simp only[PS];refine OJ 9 z (λh K=>?_);refine LM f 167 #[Z (q+U),Ow FM] γ (pi _ _ _) ?_;rintro e y9 ⟨rfl,s⟩;refine⟨_,z,?_⟩;replace s:=dD.E (s.J dD.size);replace t:=t.I s;replace X:=X.I s;replace B:=B.I s;replace J:=J.I s;replace O:=O.I s;have hv:=s.size;clear s;refine K.j _ _ (⟨X,J,B⟩) (λcA=>?_)
  try simp only[PS]
  refine OJ 11 z (λh K=>?_);go_simp;generalize C:World.alloc _ _=aS;obtain⟨s,aU,y⟩:=LP C;obtain⟨B4,G⟩:=u y9.heap.size;rw[<-G]at y⊢;have M:=y.q;have l4:D.heap.size<=B4:=d
  replace t:=t.I s;replace X:=X.I s;replace B:=B.I s;replace J:=J.I s;replace O:=O.I s;clear s y aU G C;refine K.j _ _ (⟨X,J,B⟩) (λaR=>?_)
  try simp only[PS]
  refine OK 12 (.agg (dK 0 n (v.length:Int) (L+1) T H F R (U+1) 0 (Y a6 E.length c6) (Y (Hw B4 0) 2 2))) z aR ?_;simp only[PS];refine QZ (rs:=[13]) κ σ ?_;refine AllReadyT.last z (λh K=>?_);refine VC z 115 _ _ z (w.heap.size+1) 0 (dK 0 n (v.length:Int) (L+1) T H F R (U+1) 0 (Y a6 E.length c6) (Y (Hw B4 0) 2 2)) z z (t.r2.there z) UH κ ?_;refine K.j _ _ trivial (λ_=>?_)
  try simp only[PS]
  refine VE κ ?_ _;obtain⟨s,y⟩:=t.fin ⟨0,n,v.length,L+1,T,H,F,R,U+1,0,E,[(false,q+U,FM),(true,0,empty)]⟩ a6 c6 (Hw B4 0) 2 eF ⟨O.q,.inr ⟨B4,z,M⟩,gy (N:=D.heap.size) eH (λg k=>by have:=kp k;omega)⟩ (λg k=>by have:=dR g k;omega) (λg k=>by have:=kp k;omega);have G:=LE y;clear y;generalize C:World.setCells _ _ _ _=y at s G⊢;clear C t
  try go_wp2
  refine VY (D:=⟨0,n,v.length,L+1,T,H,F,R,U+1,0,E,[(false,q+U,FM),(true,0,empty)]⟩) 4 results107 (a:=a6) (c:=c6) (b:=Hw B4 0) (e:=2) _ ?_ s ?_ G.j<;>rfl
