import Derived.Test.YteflhojcomcfaaaGreatDoorPrOpS
import Derived.Test.YteflhojcomcfaaaGreatDoorPrG29
import Derived.Test.YteflhojcomcfaaaGreatDoorPrMvC
set_option maxHeartbeats 16000000
namespace Go.Proofs.YteflhojcomcfaaaGreatDoor
open Tryz
open Go.RowKit
set_option linter.all false
set_option maxRecDepth 8000
def Dl(v d:Q9)(c:List Q4)(U L:Int)(f:Ra):Prop:=∃(a:Nat) (b:Q5) (e:Nat),f=Dr a 0/\Row d a [Y b c.length e,Z U,Z L]/\v.heap.size<=a/\OwnS d b (c.map Value.string)/\(∀g,blk b c.length=some g->v.heap.size<=g)/\Q3 v d
theorem lO(a:Q5)(B:List Q4)(c:Nat)(I:Q5)(N:List (Int×Q4))(j:Nat)(n:Int)(w:Q9)(m:Strs w a B)(h':Wrs w I N)(hl:B.length<=1048576)(cW:N.length<=1048576)(hs:∀s∈B,s.size<=1048576)(cZ:∀o∈N,o.2.size<=1048576)
  (ty:TypeId)(v:Ra)(cH:w.cell? (Ki 7 0)=some (.iface ty v))(cA:w.cell? (Ki 1 0)=some (.iface 318 (.agg #[Dr 10 58])))(eQ:7<w.heap.size):Calls prog 100 #[LR a B.length c I N.length j,Z n] w λo J=>kw w J o (OL B N n):=by
 have k:=LE (λ(K:Q9) k1 k2=>ZL a B c I N j K k1 k2 hl cW hs cZ);obtain⟨i,g⟩:=nHz (OL B N n);rw[<-g.j];unfold LR;go_enter func100,ntmps100;go_upto_region 1 with fail;generalize e:w.alloc _=v1;obtain⟨p,y,r⟩:=LP e;clear e;generalize s:v1.alloc _=v2;obtain⟨q,A,e⟩:=LP s;clear s;rw[y]at e;have t:StB w v2 [Y a B.length c,Y I N.length j] (λ_=>True):=⟨p.E (q.J p.size),(r.I q).q,e.q,XP (λ_=>trivial)⟩;have G:w.heap.size+1<v2.heap.size:=e.q.lt;clear p q r e y A;have p:=t.r1.y 0;have y:=t.r1.y 1;have r:=t.r1.lt;unfold LR at k;go_wp2_with fail;clear p y r;refine(k.j _ (m.I t.e) (h'.I t.e)).J ?_;rintro o v3 ⟨rfl,s⟩;replace t:=t.I s;clear s G k
 cases hok:LT B N with
 | false =>
  obtain rfl:i=LO 1:=g.j.E (nh (λk=>by rw[hok]at k;exact absurd k.1 σ));clear cH cA;go_upto_region 2 with fail;refine t.noR 1 _ _ z l z z z z (λy s G=>?_)
  try simp only[PS]
  clear t
  try go_wp2
  refine YG 4 results100 _ ?_ s ?_ G.j<;>rfl
 | true =>
 by_cases hn:1<=n/\n<=8
 case neg =>
  have hd:=AH hn;obtain rfl:i=LO 1:=g.j.E (nh (λk=>hn k.2));clear cH cA;go_upto_region 2 with (go_at_call 27;refine(TX _ _).J ?_;rw[hd];refine OF ?_);refine t.noR 1 _ _ z l z z z z (λy s G=>?_)
  try simp only[PS]
  clear t
  try go_wp2
  refine YG 4 results100 _ ?_ s ?_ G.j<;>rfl
 have q:=AG hok hn;have hd:=AM hn;have hg:=mb q;have dF:=ue q;obtain⟨⟨fA,fC,fE⟩,_,_⟩:=QH q.1;have hQ:=QS (S:=(B.length:Int)) d;obtain⟨T,H,F,R,r⟩:∃T H F R,NJ B N n=(T,H,F,R):=⟨_,_,_,_,z⟩;obtain⟨P,U,L,y⟩:∃P U L,OZ B N n=(P,U,L):=⟨_,_,_,z⟩;have E:VW B N (2+H*hv B.length) (hv B.length) F R n=(P,U,L):=by rw[<-y];unfold OZ;rw[r]
 rw[r]at hg;rw[y]at dF;unfold ZM at hg;simp only at hg dF;obtain⟨A,hH,hF,hR⟩:=hg;obtain⟨hU,hL,eZ,e⟩:=dF;have eK:=LE e;clear e;have dU:=LE (λK (s:Q3 w K)=>((s.cell (p:=(Ki 7 0)) eQ).E cH));have dR:=LE (λK (s:Q3 w K)=>((s.cell (p:=(Ki 1 0)) (by show 1<_;omega)).E cA));have bY:=LE (λK k1 k2 (s:Q3 w K)=>Oh a B c I N j n K k1 k2 hl cW hs cZ ty v (dU.j _ s) (dR.j _ s) (by have:=s.size;omega));rw[r]at bY;simp only[ft]at bY;have p:=uy hH (q:=hv B.length) d;have aO:=LE (λK k1 k2 (s:Q3 w K)=>(C8 a B c I N j (2+H*hv B.length) (hv B.length) F R n K k1 k2 hl cW hs cZ d d ty v (dU.j _ s) (dR.j _ s) (by have:=s.size;omega)).J (λe M G=>wI G));rw[E]at aO;simp only[nW]at aO;have HH:=LE (λK=>it (B.length:Int) K);have HB:=LE (λK=>Bz (B.length:Int) H hH.1 hH.2 K)
 have dQ:=LE (λC cx K k1=>Pi C P cx K k1 d (λe G=>by have:=eK.j e G;omega));unfold vx LX at dQ;clear p cH cA;have aH:=LE q;have G:=LE r;have p:=LE y;clear q r y E
 have eI:Hid (OU P []=none->i=LO 2):=λM=>g.j.E (oJ aH.j p.j M)
 have eJ:Hid (∀E,OU P []=some E->60000<L+1->i=LO 3):=λE M h4=>g.j.E (pF aH.j p.j M h4)
 have dN:Hid (∀E,OU P []=some E->¬60000<L+1->hv B.length-1<MY (NC E) n->i=LO 4):=λE M h4 h5=>g.j.E (mH aH.j p.j M h4 h5)
 have dP:Hid (∀E,OU P []=some E->¬60000<L+1->¬hv B.length-1<MY (NC E) n->hv B.length<=U->i=PU n B.length (L+1) T H F E):=λE M h4 h5 h6=>g.j.E (xz aH.j G.j p.j M h4 h5 h6)
 have cJ:Hid (∀E,OU P []=some E->¬60000<L+1->¬hv B.length-1<MY (NC E) n->¬hv B.length<=U->i=⟨0,n,B.length,L+1,T,H,F,R,U+1,0,E,[(false,2+H*hv B.length+U,NB 3 (L+1) (F+U) ByteArray.empty n),(true,0,ByteArray.empty)]⟩):=λE M h4 h5 h6=>g.j.E (yq aH.j G.j p.j M h4 h5 h6)
 have dV:Hid (∀E,¬60000<L+1->¬hv B.length-1<MY (NC E) n->bi n B.length (L+1) T H F E):=λE h4 h5=>⟨aH.j.2,d,d,A,hH,hF,d⟩
 clear G p g;obtain⟨Q,HQ⟩:=nHz (hv B.length);obtain⟨q,g⟩:=u (2+H*Q);rw[<-HQ.j]at hQ hU aO HH HB dN dP cJ dV;rw[<-g]at aO HB cJ;have fF:2<=q/\q<=101:=by have:=uy hH (q:=Q) d;omega
 have eL:Hid (2+H*hv B.length=q):=by show _=_;rw[g,HQ.j]
 clear g;have fJ:IntKind.i64.wrap (Q-1)=Q-1:=bh _ d d;have fI:IntKind.i64.wrap (L+1)=L+1:=bh _ d d;have fO:IntKind.i64.wrap (U+1)=U+1:=bh _ d d;have fH:IntKind.i64.wrap (F+U)=F+U:=bh _ d d;have fQ:IntKind.i64.wrap (q+U)=q+U:=bh _ d d;have p:=t.r1.y 0;have y:=t.r1.y 1;have r:=t.r1.lt;unfold LR at bY aO;go_wp2_with (go_at_call 27;refine(TX _ _).J ?_;rw[hd];refine OF ?_);clear p y r;refine(bY.j _ (m.I t.e) (h'.I t.e) t.e).J ?_;rintro o v4 ⟨rfl,s⟩;replace t:=t.I s;clear s;go_upto_region 5 with fail;generalize p:v4.alloc _=O;obtain⟨s,r,g⟩:=LP p;clear p;obtain⟨BR,y⟩:=u v4.heap.size;rw[<-y]at g⊢;have S:=g.q;replace t:=t.I s;clear s g r y;go_cut [7] from 26 to 38 (λv7 K=>Dl O K P U L v7)
 case first =>
  have dD:=(@AB O.heap.size O).drew;refine WN (14) (S:=λJ=>Row J w.heap.size [Y a B.length c,Y I N.length j]/\Row J BR [Z T,Z H,Z F,Z R]) κ (⟨t.r1.I dD,S.I dD⟩) (λx=>?_);refine ME 0 (.agg #[Y a B.length c,Y I N.length j]) z (AT ⟨f,λw g=>by obtain⟨z0,b⟩:=g;have c:=z0.y 0;have r:=z0.y 1;have p:=z0.lt;go_simp⟩) x (OK 1 (Z (B.length:Int)) z x (ME 2 (Dr BR 1) z (AT ⟨f,λw g=>by obtain⟨z0,b⟩:=g;have p:=b.lt;go_simp⟩) x (ME 3 (Z H) z (AT ⟨f,λw g=>by obtain⟨z0,b⟩:=g;have c:=b.y 1;go_simp⟩) x (OK 5 (Z (B.length:Int)) z x (ME 7 (Dr BR 2) z (AT ⟨f,λw g=>by obtain⟨z0,b⟩:=g;have p:=b.lt;go_simp⟩) x (ME 8 (Z F) z (AT ⟨f,λw g=>by obtain⟨z0,b⟩:=g;have c:=b.y 2;go_simp⟩) x (ME 9 (Dr BR 3) z (AT ⟨f,λw g=>by obtain⟨z0,b⟩:=g;have p:=b.lt;go_simp⟩) x (ME 10 (Z R) z (AT ⟨f,λw g=>by obtain⟨z0,b⟩:=g;have c:=b.y 3;go_simp⟩) x (OK 11 (Z n) z x ?_)))))))))
  simp only[PS];refine QZ (rs:=[4,13]) κ σ ?_;refine AllReadyT.cons z (λX y=>?_) (AllReadyT.cons z (λX y=>?_) AllReadyT.nil)
  focus
   refine LM f 148 #[Z (B.length:Int),Z H] l (HB.j _) ?_;rintro e G ⟨rfl,s⟩;refine⟨_,z,?_⟩;rw[s];clear s G;refine y.j _ _ x (λ_=>?_)
   try simp only[PS]
   refine QZ (rs:=[6,13]) κ σ ?_;refine AllReadyT.cons z (λX y=>?_) (AllReadyT.cons z (λX y=>?_) AllReadyT.nil)
   focus
    refine LM f 66 #[Z (B.length:Int)] l (HH.j _) ?_;rintro e G ⟨rfl,s⟩;refine⟨_,z,?_⟩;rw[s];clear s G;refine y.j _ _ x (λ_=>?_)
    try simp only[PS]
    refine QZ (rs:=[12,13]) κ σ ?_;refine AllReadyT.cons z (λX y=>?_) (AllReadyT.cons z (λX y=>?_) AllReadyT.nil)
    focus
     obtain⟨yb,s⟩:=u O.drew;rw[<-s];have A:Q3 O yb:=by rw[s];exact(AB).drew
     clear s;have G:=t.e.E (A.J t.e.size);refine LM f 147 #[.agg #[Y a B.length c,Y I N.length j],Z q,Z Q,Z F,Z R,Z n] l (aO.j _ (m.I G) (h'.I G) G) ?_;rintro e aQ ⟨C,cx,rfl,W,D,s⟩;refine⟨_,z,?_⟩;have dX:=RX (lo:=yb.heap.size) W jd D
     have cE:∀g,blk C P.length=some g->O.heap.size<=g:=λg k=>AJ A.size (D g k)
     replace A:=A.E (s.J A.size);clear s W G;refine y.j _ _ (⟨t.r1.I A,S.I A⟩) (λeO=>?_)
     try simp only[PS]
     refine OJ 13 z (λX y=>?_);go_simp;generalize V:World.alloc _ _=aU;obtain⟨s,aW,W⟩:=LP V;obtain⟨h,G⟩:=u aQ.heap.size;rw[<-G]at W⊢;have bQ:O.heap.size<=h:=by rw[G];exact A.size
     have J:=W.q;have tX:aQ.heap.size<=h:=by rw[G];exact AA
     replace dX:=dX.I s;replace A:=A.E (s.J A.size);clear s W aW G V;refine y.j _ _ (⟨t.r1.I A,S.I A⟩) (λcM=>?_)
     try simp only[PS]
     obtain⟨yz,rfl⟩:=u aU;have cQ:=cM
    rotate_left
    focus
     obtain⟨yb,s⟩:=u O.drew;rw[<-s];have A:Q3 O yb:=by rw[s];exact(AB).drew
     clear s;go_simp;generalize V:World.alloc _ _=aU;obtain⟨s,aW,W⟩:=LP V;obtain⟨h,G⟩:=u yb.heap.size;rw[<-G]at W⊢;have bQ:O.heap.size<=h:=by rw[G];exact A.size
     have J:=W.q;replace A:=A.E (s.J A.size);clear s W aW G V;refine y.j _ _ (⟨t.r1.I A,S.I A⟩) (λeP=>?_)
     try simp only[PS]
     refine OJ 12 z (λX y=>?_);have G:=t.e.E (A.J t.e.size);refine LM f 147 #[.agg #[Y a B.length c,Y I N.length j],Z q,Z Q,Z F,Z R,Z n] l (aO.j _ (m.I G) (h'.I G) G) ?_;rintro e aQ ⟨C,cx,rfl,W,D,s⟩;refine⟨_,z,?_⟩;have dX:=RX (lo:=aU.heap.size) W jd D
     have cE:∀g,blk C P.length=some g->O.heap.size<=g:=λg k=>AJ A.size (D g k)
     have lX:=J.lt;replace J:=J.I s;replace A:=A.E (s.J A.size);clear s W G;refine y.j _ _ (⟨t.r1.I A,S.I A⟩) (λcN=>?_)
     try simp only[PS]
     obtain⟨yz,rfl⟩:=u aQ;have cQ:=cN
   rotate_left 2
   focus
    obtain⟨yb,s⟩:=u O.drew;rw[<-s];have A:Q3 O yb:=by rw[s];exact(AB).drew
    clear s;go_simp;generalize V:World.alloc _ _=aU;obtain⟨s,aW,W⟩:=LP V;obtain⟨h,G⟩:=u yb.heap.size;rw[<-G]at W⊢;have bQ:O.heap.size<=h:=by rw[G];exact A.size
    have J:=W.q;replace A:=A.E (s.J A.size);clear s W aW G V;refine y.j _ _ (⟨t.r1.I A,S.I A⟩) (λcO=>?_)
    try simp only[PS]
    refine OJ 6 z (λX y=>?_);refine LM f 66 #[Z (B.length:Int)] l (HH.j _) ?_;rintro e G ⟨rfl,s⟩;refine⟨_,z,?_⟩;rw[s];clear s G;refine y.j _ _ cO (λ_=>?_)
    try simp only[PS]
    refine OJ 12 z (λX y=>?_);have G:=t.e.E (A.J t.e.size);refine LM f 147 #[.agg #[Y a B.length c,Y I N.length j],Z q,Z Q,Z F,Z R,Z n] l (aO.j _ (m.I G) (h'.I G) G) ?_;rintro e aQ ⟨C,cx,rfl,W,D,s⟩;refine⟨_,z,?_⟩;have dX:=RX (lo:=aU.heap.size) W jd D
    have cE:∀g,blk C P.length=some g->O.heap.size<=g:=λg k=>AJ A.size (D g k)
    have lX:=J.lt;replace J:=J.I s;replace A:=A.E (s.J A.size);clear s W G;refine y.j _ _ (⟨t.r1.I A,S.I A⟩) (λcP=>?_)
    try simp only[PS]
    obtain⟨yz,rfl⟩:=u aQ;have cQ:=cP
  rotate_left 3
  focus
   obtain⟨yb,s⟩:=u O.drew;rw[<-s];have A:Q3 O yb:=by rw[s];exact(AB).drew
   clear s;go_simp;generalize V:World.alloc _ _=aU;obtain⟨s,aW,W⟩:=LP V;obtain⟨h,G⟩:=u yb.heap.size;rw[<-G]at W⊢;have bQ:O.heap.size<=h:=by rw[G];exact A.size
   have J:=W.q;replace A:=A.E (s.J A.size);clear s W aW G V;refine y.j _ _ (⟨t.r1.I A,S.I A⟩) (λV=>?_)
   try simp only[PS]
   refine OJ 4 z (λX y=>?_);refine LM f 148 #[Z (B.length:Int),Z H] l (HB.j _) ?_;rintro e G ⟨rfl,s⟩;refine⟨_,z,?_⟩;rw[s];clear s G;refine y.j _ _ V (λ_=>?_)
   try simp only[PS]
   refine OJ 6 z (λX y=>?_);refine LM f 66 #[Z (B.length:Int)] l (HH.j _) ?_;rintro e G ⟨rfl,s⟩;refine⟨_,z,?_⟩;rw[s];clear s G;refine y.j _ _ V (λ_=>?_)
   try simp only[PS]
   refine OJ 12 z (λX y=>?_);have G:=t.e.E (A.J t.e.size);refine LM f 147 #[.agg #[Y a B.length c,Y I N.length j],Z q,Z Q,Z F,Z R,Z n] l (aO.j _ (m.I G) (h'.I G) G) ?_;rintro e aQ ⟨C,cx,rfl,W,D,s⟩;refine⟨_,z,?_⟩;have dX:=RX (lo:=aU.heap.size) W jd D
   have cE:∀g,blk C P.length=some g->O.heap.size<=g:=λg k=>AJ A.size (D g k)
   have lX:=J.lt;replace J:=J.I s;replace A:=A.E (s.J A.size);clear s W G;refine y.j _ _ (⟨t.r1.I A,S.I A⟩) (λbT=>?_)
   try simp only[PS]
   obtain⟨yz,rfl⟩:=u aQ;have cQ:=bT
  all_goals
   refine QZ (rs:=[14]) κ σ ?_;refine AllReadyT.last z (λX y=>?_);obtain⟨l0,l1,G⟩:=J.k3;obtain⟨s,W,f2⟩:=J.z3;have ll:=J.lt;go_simp;clear l0 l1 G s W f2 ll;refine y.j _ _ trivial (λ_=>?_)
   try simp only[PS]
   refine VE κ ?_ _;have G:=NZ (NZ (NZ (BC yz (some h)) 0 (Y C P.length cx)) 1 (Z U)) 2 (Z L);have rY:=((J.set 0 σ (Y C P.length cx)).set 1 σ (Z U)).set 2 σ (Z L)
   have s:=dX.V G (λg e=>by cases e;first|(left;omega)|(right;omega))
   have W:=A.E (MU G A.size (λo e=>by have e:=BQ e;omega));generalize cL:World.setCell (World.setCell (World.setCell _ _ _) _ _) _ _=yC at rY s W⊢;clear cL G;go_wp2_with fail;go_meet;exact⟨h,C,cx,z,rY,bQ,s.q,cE,W⟩
 case rest =>
 obtain⟨h,C,cx,rfl,J,bQ,W,D,s⟩:=hcut
 rename World=>v6
 replace t:=t.I s;replace S:=S.I s;clear s;have p:=J.y 0;have r:=J.lt;go_wp2_with fail;clear p r;have V:=LE (dQ.j _ cx _ W.strs)
 cases M:OU P [] with
 | none =>
  obtain rfl:i=LO 2:=eI.j M;rw[M]at V;simp only[JS,JH,AU]at V;clear M;refine(V.j).J ?_;rintro e v7 ⟨a6,c6,rfl,_,_,_,s⟩;replace t:=t.I s;clear s;go_upto_region 7 with fail;generalize y:v7.alloc _=v8;obtain⟨s,aV,G⟩:=LP y;clear y aV G;replace t:=t.I s;clear s;go_upto_region 8 with fail;refine t.noR 2 _ _ z l z z z z (λy s G=>?_)
  try simp only[PS]
  clear t
  try go_wp2
  refine YG 4 results100 _ ?_ s ?_ G.j<;>rfl
 | some E =>
  rw[M]at V;simp only[GD,JI]at V;have s:=kr P [] YI E M;have p:=XO s;have dZ:=LE p.2;have fG:=p.1;have cI:=LE (eJ.j E M);have aY:=LE (dN.j E M);have aZ:=LE (dP.j E M);have bB:=LE (cJ.j E M);have bC:=LE (dV.j E);have b:=LE (λX x K k1 k2=>zf n B.length (L+1) T H F R U 0 X E x K k1 k2 d dZ.j);have bZ:=LE (λX x K=>zM n B.length (L+1) T H F R U 0 X E.length x K d d);unfold NA at b bZ;rw[<-HQ.j]at b bZ;obtain⟨r,eM⟩:=nHz (MY (NC E) n);rw[<-eM.j]at b aY aZ bB bC;clear M p s;refine(V.j).J ?_;rintro e v7 ⟨a6,c6,rfl,cC,y,cV,s⟩;have p:=RX (lo:=v6.heap.size) y TS cV
  have eH:∀g,blk a6 E.length=some g->g<v7.heap.size:=λg k=>gz y k
  have l6:=t.r2.lt;have fT:v6.heap.size<=v7.heap.size:=s.size;replace t:=t.I s;replace J:=J.I s;replace S:=S.I s;clear s y V;go_upto_region 7 with fail;generalize y:v7.alloc _=v8;obtain⟨s,aV,G⟩:=LP y;clear y;obtain⟨B8,y⟩:=u v7.heap.size;rw[<-y]at G⊢;have V:=G.q;replace t:=t.I s;replace J:=J.I s;replace S:=S.I s;replace p:=p.I s;clear s G aV y;have x1:=J.y 1;have x2:=J.y 2;have xl:=J.lt;obtain⟨G,M,t2,t3⟩:=S.k4;have tl:=S.lt;have s:=V.y 0;have y:=V.lt;go_upto_region 10 with fail;clear x1 x2 xl G M t2 t3 tl s y;generalize G:v8.alloc _=v9;obtain⟨s,dM,y⟩:=LP G;clear G;obtain⟨B9,G⟩:=u v8.heap.size;rw[<-G]at y⊢;have M:Row v9 B9 (sJ n (B.length:Int) (L+1) T H F R U 0 (Y a6 E.length c6)):=y.q;replace t:=t.I s;replace p:=p.I s;clear s y dM J S V G;have S:=M.y 2
  have J:=M.lt
  by_cases h4:60000<L+1
  case pos =>
   obtain rfl:i=LO 3:=cI.j d;go_upto_region 11 with fail;refine t.noR 3 _ _ z l z z z z (λy s G=>?_)
   try simp only[PS]
   clear t
   try go_wp2
   refine YG 4 results100 _ ?_ s ?_ G.j<;>rfl
  have eV:L+1<=60000:=d
  go_upto_region 12 with fail;clear S J;refine AX ?_;refine BE z 44 _ z B9 0 z _ _ M.range underlying44 z QD ?_;simp only[PS];go_wp2_with fail;refine(b.j _ _ _ p.q.prs cC).J ?_;rintro e va ⟨rfl,s⟩;replace t:=t.I s;replace M:=M.I s;replace p:=p.I s;clear s b
  by_cases h5:Q-1<r
  case pos =>
   obtain rfl:i=LO 4:=aY.j d d;rw[AH (show ¬r<=Q-1 by omega)];go_upto_region 13 with fail;refine t.noR 4 _ _ z l z z z z (λy s G=>?_)
   try simp only[PS]
   clear t
   try go_wp2
   refine YG 4 results100 _ ?_ s ?_ G.j<;>rfl
  rw[AM (show r<=Q-1 by omega)];go_upto_region 14 with fail;refine AX ?_;refine BE z 44 _ z B9 0 z _ _ M.range underlying44 z QD ?_;simp only[PS];go_wp2_with fail;refine(bZ.j _ _ _).J ?_;rintro e vb ⟨rfl,s⟩;replace t:=t.I s;replace M:=M.I s;replace p:=p.I s;clear s bZ;have fU:v7.heap.size<=vb.heap.size:=p.top
  by_cases h6:Q<=U
  case pos =>
   have eY:Q-U=0:=d
   have G:=bC.j d d;have s:i=PU n B.length (L+1) T H F E:=aZ.j d d d;have y:=LE (λX x K k1 k2=>s8 n B.length (L+1) T H F R U 0 X E x K k1 k2 d dZ.j G);rw[<-s]at y;unfold NA at y;clear s G;go_upto_region 15 with fail;refine AX ?_;refine BE z 44 _ z B9 0 z _ _ M.range underlying44 z QD ?_;simp only[PS];go_wp2_with fail;refine(y.j _ _ _ p.q.prs cC).J ?_;rintro e vc ⟨J,b,S,oe,rfl,cY,eT,cF,g2,s⟩;have lb:=s.size;replace t:=t.I s;replace p:=p.I s;clear s y;unfold MT
   obtain⟨aT,own,g1⟩:i.rs.length<=b/\OwnDn vc i.rs i.ops J S/\(∀g,blk J i.rs.length=some g->v6.heap.size<=g):=by
    rcases eT with ⟨rfl,rfl,bV⟩|bV
    .rw[bV]
     exact⟨cC,⟨p.q,cF,gy eH (λg k=>by have:=g2 g k;omega)⟩,cV⟩
    rw[bV]
    exact⟨AL,⟨.inl z,cF,.inl z⟩,λg k=>by cases k⟩
   have fS:=l6
   try simp only[PS]
   refine‹∀(a:Act) (w:Q9),wpList _ _ _ _ a w->_› _ _ ?_
   refine BV z 115 _ _ z (w.heap.size+1) 0 (dK i.C i.W i.S i.L i.T i.H i.F i.R i.U i.O (Y J i.rs.length b) (Y S i.ops.length oe)) z z (t.r2.there z) UH κ ?_
   try simp only[PS]
   obtain⟨s,y⟩:=t.fin i J b S oe aT own (λg k=>by have:=g1 g k;omega) (λg k=>by have:=g2 g k;omega);have G:=LE y;clear y;generalize V:World.setCells _ _ _ _=y at s G⊢;clear V t
   try go_wp2
   refine YG 4 results100 _ ?_ s ?_ G.j cY<;>rfl
  have G:¬Q-U=0:=d
  have eX:(Q-U == 0)=false:=by simp[G]
  have y:=LE (λX x K=>Oq n B.length (L+1) T H F R U 0 X E x K hH hF d);have s:=bB.j d d d;rw[eL.j]at y;rw[<-s]at y;have bV:i.rs=E:=by rw[s]
  unfold NA at y;clear s G;go_upto_region 16 with fail;refine AX ?_;refine BE z 44 _ z B9 0 z _ _ M.range underlying44 z QD ?_;simp only[PS];go_wp2_with fail;refine(y.j _ _ _).J ?_;rintro e vc ⟨S,oe,rfl,cY,cF,g2,s⟩;have lb:=s.size;replace t:=t.I s;replace p:=p.I s;clear s y;unfold MT;obtain⟨J,rfl⟩:=u a6;obtain⟨b,rfl⟩:=u c6
  obtain⟨aT,own,g1⟩:i.rs.length<=b/\OwnDn vc i.rs i.ops J S/\(∀g,blk J i.rs.length=some g->v6.heap.size<=g):=by
   rw[bV];exact⟨cC,⟨p.q,cF,gy eH (λg k=>by have:=g2 g k;omega)⟩,cV⟩
  try simp only[PS]
  refine‹∀(a:Act) (w:Q9),wpList _ _ _ _ a w->_› _ _ ?_
  refine BV z 115 _ _ z (w.heap.size+1) 0 (dK i.C i.W i.S i.L i.T i.H i.F i.R i.U i.O (Y J i.rs.length b) (Y S i.ops.length oe)) z z (t.r2.there z) UH κ ?_
  try simp only[PS]
  obtain⟨s,y⟩:=t.fin i J b S oe aT own (λg k=>by have:=g1 g k;omega) (λg k=>by have:=g2 g k;omega);have G:=LE y;clear y;generalize V:World.setCells _ _ _ _=y at s G⊢;clear V t
  try go_wp2
  refine YG 4 results100 _ ?_ s ?_ G.j cY<;>rfl
