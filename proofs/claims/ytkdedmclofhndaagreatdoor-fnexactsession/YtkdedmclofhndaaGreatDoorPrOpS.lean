import Derived.Test.YtkdedmclofhndaaGreatDoorPrG42
import Derived.Test.YtkdedmclofhndaaGreatDoorPrMvS
import Derived.Test.YtkdedmclofhndaaGreatDoorPrScS
import Derived.Test.YtkdedmclofhndaaGreatDoorPrG46
set_option maxHeartbeats 16000000
namespace Go.Proofs.YtkdedmclofhndaaGreatDoor
open _root_.ByteArray(empty)
open Tryz
open Go.RowKit
set_option linter.all false
set_option maxRecDepth 8000
theorem XC(x:Int)(a:-9223372036854775808<=x)(b:x<=9223372036854775807):IntKind.i64.wrap x=x:=by
 simp[IntKind.wrap,IntKind.bits,IntKind.signed];omega
theorem zd{l:List Pr}(h:LN l≠[]):l.length≠0:=λe=>h (by rw[AD e];rfl)
theorem ak{l:List yZ}(h:l.map Value.string≠[]):l.length≠0:=λe=>h (by rw[AD e];rfl)
def Ff(v d:xV)(c:List yZ)(U L:Int)(f:qD):Prop:=∃(a:Nat) (b:xA) (e:Nat),f=zW a 0/\Row d a [yI b c.length e,Z U,Z L]/\v.heap.size<=a/\OwnS d b (c.map Value.string)/\(∀g,blk b c.length=some g->v.heap.size<=g)/\yX v d
theorem tU(a:xA)(i:List yZ)(c:Nat)(P:xA)(z:List (Int×yZ))(X:Nat)(n:Int)(w:xV)(h:Strs w a i)(h':Wrs w P z)(hl:i.length<=1048576)(cM:z.length<=1048576)(hs:∀s∈i,s.size<=1048576)(cO:∀x∈z,x.2.size<=1048576):Calls prog 83 #[LM a i.length c P z.length X,Z n] w λx w'=>TJ w w' x (NM i z n):=by
 have e:=Y (λ(A:xV) S m=>WH a i c P z X A S m hl cM hs cO);obtain⟨D,d⟩:∃D,Hid (D=NM i z n):=⟨_,Y rfl⟩;rw[<-d.j];unfold LM;go_enter func83,ntmps83;go_upto_region 1 with fail;generalize b:w.alloc _=v1;obtain⟨g,l,k⟩:=LK b;clear b;generalize f:v1.alloc _=v2;obtain⟨j,o,b⟩:=LK f;clear f;rw[l]at b;have f:StB w v2 [yI a i.length c,yI P z.length X] (λ_=>True):=⟨g.E (j.J g.size),(k.I j).q,b.q,UO (λ_=>trivial)⟩;have r:w.heap.size+1<v2.heap.size:=b.q.lt;clear g j k b l o;have l:=f.r1.y 0;have g:=f.r1.y 1;have b:=f.r1.lt;unfold LM at e;go_wp2_with fail;clear l g b;refine(e.j _ (h.I f.e) (h'.I f.e)).J ?_;rintro x v3 ⟨rfl,b⟩;replace f:=f.I b;clear b r e
 cases hok:LO i z with
 | false =>
  obtain rfl:D=LJ 1:=d.j.E (ic (λk=>by rw[hok]at k;exact absurd k.1 σ));go_upto_region 2 with fail;refine f.noR 1 _ _ rfl γ rfl rfl rfl rfl (λy b E=>?_)
  try simp only[PS]
  clear f
  try go_wp2
  refine TI 4 results83 _ ?_ b ?_ E.j<;>rfl
 | true =>
 by_cases hn:1<=n/\n<=8
 case neg =>
  have hd:=AH hn;obtain rfl:D=LJ 1:=d.j.E (ic (λk=>hn k.2));go_upto_region 2 with (go_at_call 24;refine(QH _ _).J ?_;rw[hd];refine NE ?_);refine f.noR 1 _ _ rfl γ rfl rfl rfl rfl (λy b E=>?_)
  try simp only[PS]
  clear f
  try go_wp2
  refine TI 4 results83 _ ?_ b ?_ E.j<;>rfl
 have g:=AG hok hn;have hd:=AM hn;have hg:=fg g;have cQ:=mz g;obtain⟨⟨eM,eO,eP⟩,_,_⟩:=OV g.1;have hQ:=PG (S:=(i.length:Int)) ω;obtain⟨T,H,F,R,l⟩:∃T H F R,MQ i z n=(T,H,F,R):=⟨_,_,_,_,rfl⟩;obtain⟨C,U,L,o⟩:∃C U L,OA i z n=(C,U,L):=⟨_,_,_,rfl⟩;have p:TG i z (2+H*hv i.length) (hv i.length) F R n=(C,U,L):=by rw[<-o];unfold OA;rw[l]
 rw[l]at hg;rw[o]at cQ;unfold WC at hg;simp only at hg cQ;obtain⟨j,hH,hF,hR⟩:=hg;obtain⟨hU,hL,eL,b⟩:=cQ;have dZ:=Y b;clear b;have bQ:=Y (λA S m=>H7 a i c P z X n A S m hl cM hs cO);rw[l]at bQ;simp only[xa]at bQ;have aN:=Y (λA S m=>(Og a i c P z X (2+H*hv i.length) (hv i.length) F R n A S m hl cM hs cO).J (λe q b=>tD b));rw[p]at aN;simp only[xc]at aN;have HH:=Y (λA=>VU (i.length:Int) A);have HB:=Y (λA=>sj (i.length:Int) H hH.1 hH.2 A);have cY:=Y (λO cx A S=>Jo O C cx A S ω (λe b=>by have:=dZ.j e b;omega));unfold qk LR at cY;have aF:=Y g;have m:=Y l;have b:=Y o;clear g l o p
 have dU:Hid (NV C []=none->D=LJ 2):=λv=>d.j.E (xz aF.j b.j v)
 have dV:Hid (∀o,NV C []=some o->60000<L+1->D=LJ 3):=λo v h4=>d.j.E (zg aF.j b.j v h4)
 have cW:Hid (∀o,NV C []=some o->¬60000<L+1->hv i.length-1<MG (MK o) n->D=LJ 4):=λo v h4 h5=>d.j.E (uq aF.j b.j v h4 h5)
 have cX:Hid (∀o,NV C []=some o->¬60000<L+1->¬hv i.length-1<MG (MK o) n->hv i.length<=U->D=OH n i.length (L+1) T H F o):=λo v h4 h5 h6=>d.j.E (se aF.j m.j b.j v h4 h5 h6)
 have bV:Hid (∀o,NV C []=some o->¬60000<L+1->¬hv i.length-1<MG (MK o) n->¬hv i.length<=U->D=⟨0,n,i.length,L+1,T,H,F,R,U+1,0,o,[(false,2+H*hv i.length+U,MJ 3 (L+1) (F+U) empty n),(true,0,empty)]⟩):=λo v h4 h5 h6=>d.j.E (td aF.j m.j b.j v h4 h5 h6)
 have dB:Hid (∀o,¬60000<L+1->¬hv i.length-1<MG (MK o) n->XD n i.length (L+1) T H F o):=λo h4 h5=>⟨aF.j.2,ω,ω,j,hH,hF,ω⟩
 clear m b d;obtain⟨Q,HQ⟩:∃Q,Hid (Q=hv i.length):=⟨_,Y rfl⟩;obtain⟨q,b⟩:∃q,q=2+H*Q:=⟨_,rfl⟩;rw[<-HQ.j]at hQ hU aN HH HB cW cX bV dB;rw[<-b]at aN HB bV;have eQ:2<=q/\q<=101:=by have:=oy hH (q:=Q) ω;omega
 clear b;have eX:IntKind.i64.wrap (Q-1)=Q-1:=XC _ ω ω;have eV:IntKind.i64.wrap (L+1)=L+1:=XC _ ω ω;have eY:IntKind.i64.wrap (U+1)=U+1:=XC _ ω ω;have eU:IntKind.i64.wrap (F+U)=F+U:=XC _ ω ω;have eZ:IntKind.i64.wrap (q+U)=q+U:=XC _ ω ω;have l:=f.r1.y 0;have g:=f.r1.y 1;have b:=f.r1.lt;unfold LM at bQ aN
 go_wp2_with (first|(go_at_call 24;refine(QH _ _).J ?_;rw[hd];refine NE ?_)|(go_at_call 29;refine(HH.j _).J ?_;refine NE ?_))
 clear l g b;refine(bQ.j _ (h.I f.e) (h'.I f.e)).J ?_;rintro x v4 ⟨rfl,b⟩;replace f:=f.I b;clear b;go_upto_region 6 with fail;generalize g:v4.alloc _=I;obtain⟨b,m,d⟩:=LK g;clear g;obtain⟨BR,l⟩:∃k,k=v4.heap.size:=⟨_,rfl⟩;rw[<-l]at d⊢;have p:=d.q;replace f:=f.I b;clear b d m l;go_cut [8] from 30 to 41 (λK A=>Ff I A C U L K)
 case first =>
  have dD:=(AB I.heap.size I).drew;refine TU (13) (S:=λw'=>Row w' w.heap.size [yI a i.length c,yI P z.length X]/\Row w' BR [Z T,Z H,Z F,Z R]) κ (⟨f.r1.I dD,p.I dD⟩) (λu=>?_);refine LU 0 (.agg #[yI a i.length c,yI P z.length X]) rfl (AS ⟨ρ,λw t=>by obtain⟨J,B⟩:=t;have c:=J.y 0;have d:=J.y 1;have l:=J.lt;go_simp⟩) u (NL 1 (Z (i.length:Int)) rfl u (LU 2 (zW BR 1) rfl (AS ⟨ρ,λw t=>by obtain⟨J,B⟩:=t;have l:=B.lt;go_simp⟩) u (LU 3 (Z H) rfl (AS ⟨ρ,λw t=>by obtain⟨J,B⟩:=t;have c:=B.y 1;go_simp⟩) u (NL 5 (Z Q) rfl u (LU 6 (zW BR 2) rfl (AS ⟨ρ,λw t=>by obtain⟨J,B⟩:=t;have l:=B.lt;go_simp⟩) u (LU 7 (Z F) rfl (AS ⟨ρ,λw t=>by obtain⟨J,B⟩:=t;have c:=B.y 2;go_simp⟩) u (LU 8 (zW BR 3) rfl (AS ⟨ρ,λw t=>by obtain⟨J,B⟩:=t;have l:=B.lt;go_simp⟩) u (LU 9 (Z R) rfl (AS ⟨ρ,λw t=>by obtain⟨J,B⟩:=t;have c:=B.y 3;go_simp⟩) u (NL 10 (Z n) rfl u ?_)))))))))
  simp only[PS];refine PM (rs:=[4,12]) κ σ ?_;refine AllReadyT.cons rfl (λN s=>?_) (AllReadyT.cons rfl (λN s=>?_) AllReadyT.nil)
  focus
   refine LI ρ 125 #[Z (i.length:Int),Z H] γ (HB.j _) ?_;rintro e E ⟨rfl,b⟩;refine⟨_,rfl,?_⟩;rw[b];clear b E;refine s.j _ _ u (λ_=>?_)
   try simp only[PS]
   refine PM (rs:=[11,12]) κ σ ?_;refine AllReadyT.cons rfl (λN s=>?_) (AllReadyT.cons rfl (λN s=>?_) AllReadyT.nil)
   focus
    obtain⟨V,b⟩:∃y,y=I.drew:=⟨_,rfl⟩;rw[<-b];have j:yX I V:=by show Below (I.heap.size) I V;rw[b];exact(AB _ _).drew
    clear b;have r:=f.e.E (j.J f.e.size);refine LI ρ 124 #[.agg #[yI a i.length c,yI P z.length X],Z q,Z Q,Z F,Z R,Z n] γ (aN.j _ (h.I r) (h'.I r)) ?_;rintro e aS ⟨O,cx,rfl,W,aM,b⟩;refine⟨_,rfl,?_⟩;have dX:=QF (lo:=V.heap.size) W ak aM
    have cL:∀g,blk O C.length=some g->I.heap.size<=g:=λg k=>AJ j.size (aM g k)
    replace j:=j.E (b.J j.size);clear b W r;refine s.j _ _ (⟨f.r1.I j,p.I j⟩) (λcA=>?_)
    try simp only[PS]
    refine NK 12 rfl (λN s=>?_);go_simp;generalize G:World.alloc _ _=bJ;obtain⟨b,aU,E⟩:=LK G;obtain⟨M,r⟩:∃k,k=aS.heap.size:=⟨_,rfl⟩;rw[<-r]at E⊢;have bT:I.heap.size<=M:=by rw[r];exact j.size
    have m:=E.q;have tX:aS.heap.size<=M:=by rw[r];exact AA _
    replace dX:=dX.I b;replace j:=j.E (b.J j.size);clear b E aU r G;refine s.j _ _ (⟨f.r1.I j,p.I j⟩) (λaR=>?_)
    try simp only[PS]
    obtain⟨yz,rfl⟩:∃y,y=bJ:=⟨_,rfl⟩;have dN:=aR
   rotate_left
   focus
    obtain⟨V,b⟩:∃y,y=I.drew:=⟨_,rfl⟩;rw[<-b];have j:yX I V:=by show Below (I.heap.size) I V;rw[b];exact(AB _ _).drew
    clear b;go_simp;generalize G:World.alloc _ _=bJ;obtain⟨b,aU,E⟩:=LK G;obtain⟨M,r⟩:∃k,k=V.heap.size:=⟨_,rfl⟩;rw[<-r]at E⊢;have bT:I.heap.size<=M:=by rw[r];exact j.size
    have m:=E.q;replace j:=j.E (b.J j.size);clear b E aU r G;refine s.j _ _ (⟨f.r1.I j,p.I j⟩) (λeE=>?_)
    try simp only[PS]
    refine NK 11 rfl (λN s=>?_);have r:=f.e.E (j.J f.e.size);refine LI ρ 124 #[.agg #[yI a i.length c,yI P z.length X],Z q,Z Q,Z F,Z R,Z n] γ (aN.j _ (h.I r) (h'.I r)) ?_;rintro e aS ⟨O,cx,rfl,W,aM,b⟩;refine⟨_,rfl,?_⟩;have dX:=QF (lo:=bJ.heap.size) W ak aM
    have cL:∀g,blk O C.length=some g->I.heap.size<=g:=λg k=>AJ j.size (aM g k)
    have lX:=m.lt;replace m:=m.I b;replace j:=j.E (b.J j.size);clear b W r;refine s.j _ _ (⟨f.r1.I j,p.I j⟩) (λcC=>?_)
    try simp only[PS]
    obtain⟨yz,rfl⟩:∃y,y=aS:=⟨_,rfl⟩;have dN:=cC
  rotate_left 2
  focus
   obtain⟨V,b⟩:∃y,y=I.drew:=⟨_,rfl⟩;rw[<-b];have j:yX I V:=by show Below (I.heap.size) I V;rw[b];exact(AB _ _).drew
   clear b;go_simp;generalize G:World.alloc _ _=bJ;obtain⟨b,aU,E⟩:=LK G;obtain⟨M,r⟩:∃k,k=V.heap.size:=⟨_,rfl⟩;rw[<-r]at E⊢;have bT:I.heap.size<=M:=by rw[r];exact j.size
   have m:=E.q;replace j:=j.E (b.J j.size);clear b E aU r G;refine s.j _ _ (⟨f.r1.I j,p.I j⟩) (λcE=>?_)
   try simp only[PS]
   refine NK 4 rfl (λN s=>?_);refine LI ρ 125 #[Z (i.length:Int),Z H] γ (HB.j _) ?_;rintro e E ⟨rfl,b⟩;refine⟨_,rfl,?_⟩;rw[b];clear b E;refine s.j _ _ cE (λ_=>?_)
   try simp only[PS]
   refine NK 11 rfl (λN s=>?_);have r:=f.e.E (j.J f.e.size);refine LI ρ 124 #[.agg #[yI a i.length c,yI P z.length X],Z q,Z Q,Z F,Z R,Z n] γ (aN.j _ (h.I r) (h'.I r)) ?_;rintro e aS ⟨O,cx,rfl,W,aM,b⟩;refine⟨_,rfl,?_⟩;have dX:=QF (lo:=bJ.heap.size) W ak aM
   have cL:∀g,blk O C.length=some g->I.heap.size<=g:=λg k=>AJ j.size (aM g k)
   have lX:=m.lt;replace m:=m.I b;replace j:=j.E (b.J j.size);clear b W r;refine s.j _ _ (⟨f.r1.I j,p.I j⟩) (λcF=>?_)
   try simp only[PS]
   obtain⟨yz,rfl⟩:∃y,y=aS:=⟨_,rfl⟩;have dN:=cF
  all_goals
   refine PM (rs:=[13]) κ σ ?_;refine AllReadyT.last rfl (λN s=>?_);obtain⟨W,l1,r⟩:=m.k3;obtain⟨b,E,G⟩:=m.z3;have ll:=m.lt;go_simp;clear W l1 r b E G ll;refine s.j _ _ trivial (λ_=>?_)
   try simp only[PS]
   refine SP κ ?_ _;have G:=NA (NA (NA (AY yz (some M)) 0 (yI O C.length cx)) 1 (Z U)) 2 (Z L);have E:=((m.set 0 σ (yI O C.length cx)).set 1 σ (Z U)).set 2 σ (Z L)
   have b:=dX.V G (λg e=>by cases e;first|(left;omega)|(right;omega))
   have r:=j.E (MF G j.size (λx e=>by have e:=BP e;omega));generalize W:World.setCell (World.setCell (World.setCell _ _ _) _ _) _ _=yC at E b r⊢;clear W G;go_wp2_with fail;go_meet;exact⟨M,O,cx,rfl,E,bT,b.q,cL,r⟩
 case rest =>
 obtain⟨M,O,cx,rfl,m,bT,W,aM,b⟩:=hcut
 rename World=>v6
 replace f:=f.I b;replace p:=p.I b;clear b;have l:=m.y 0;have b:=m.lt;go_wp2_with fail;clear l b;have l:=Y (cY.j _ cx _ W.strs)
 cases v:NV C [] with
 | none =>
  obtain rfl:D=LJ 2:=dU.j v;rw[v]at l;simp only[JS,JH,AT]at l;clear v;refine(l.j).J ?_;rintro e K ⟨V,c6,rfl,_,_,_,b⟩;replace f:=f.I b;clear b;go_upto_region 8 with fail;generalize s:K.alloc _=v8;obtain⟨b,y,u⟩:=LK s;clear s y u;replace f:=f.I b;clear b;go_upto_region 9 with fail;refine f.noR 2 _ _ rfl γ rfl rfl rfl rfl (λy b E=>?_)
  try simp only[PS]
  clear f
  try go_wp2
  refine TI 4 results83 _ ?_ b ?_ E.j<;>rfl
 | some o =>
  rw[v]at l;simp only[GC,JI]at l;have d:=dx C [] VB o v;have b:=UN d;have dF:=Y b.2;have eR:=b.1;have bU:=Y (dV.j o v);have aW:=Y (cW.j o v);have aX:=Y (cX.j o v);have aY:=Y (bV.j o v);have aZ:=Y (dB.j o);have G:=Y (λB J A S=>rc B o J n A S ω dF.j);have eG:=bw (MK o) n;have eT:=ZC o;obtain⟨r,eB⟩:∃r,Hid (r=MG (MK o) n):=⟨_,Y rfl⟩;rw[<-eB.j]at G eG aW aX aY aZ;clear v b d;refine(l.j).J ?_;rintro e K ⟨V,c6,rfl,eF,s,dR,b⟩;have d:=QF (lo:=v6.heap.size) s zd dR
  have eH:∀g,blk V o.length=some g->g<K.heap.size:=λg k=>ZP s k
  have l6:=f.r2.lt;have fA:v6.heap.size<=K.heap.size:=b.size;replace f:=f.I b;replace m:=m.I b;replace p:=p.I b;clear b s l;go_upto_region 8 with fail;generalize s:K.alloc _=v8;obtain⟨b,y,u⟩:=LK s;clear s;obtain⟨B8,l⟩:∃k,k=K.heap.size:=⟨_,rfl⟩;rw[<-l]at u⊢;have s:=u.q;replace f:=f.I b;replace m:=m.I b;replace p:=p.I b;replace d:=d.I b;clear b u y l;have N:=m.y 2;have l:=m.lt
  by_cases h4:60000<L+1
  case pos =>
   obtain rfl:D=LJ 3:=bU.j ω;go_upto_region 11 with fail;refine f.noR 3 _ _ rfl γ rfl rfl rfl rfl (λy b E=>?_)
   try simp only[PS]
   clear f
   try go_wp2
   refine TI 4 results83 _ ?_ b ?_ E.j<;>rfl
  have eI:L+1<=60000:=ω
  have b:=s.y 0;have v:=s.lt;go_wp2_with fail;clear N l b v;refine(G.j _ _ _ d.q.prs).J ?_;rintro e va ⟨rfl,b⟩;replace f:=f.I b;replace m:=m.I b;replace p:=p.I b;replace s:=s.I b;replace d:=d.I b;clear b G
  by_cases h5:Q-1<r
  case pos =>
   obtain rfl:D=LJ 4:=aW.j ω ω;go_upto_region 13 with fail;refine f.noR 4 _ _ rfl γ rfl rfl rfl rfl (λy b E=>?_)
   try simp only[PS]
   clear f
   try go_wp2
   refine TI 4 results83 _ ?_ b ?_ E.j<;>rfl
  have eJ:r<=Q-1:=ω
  have u:=m.y 1;have N:=m.y 2;have l:=m.lt;obtain⟨G,t1,y,t3⟩:=p.k4;have E:=p.lt;have b:=s.y 0;have v:=s.lt;go_upto_region 15 with fail;clear u N l G t1 y t3 E b v;generalize l:va.alloc _=v9;obtain⟨b,y,u⟩:=LK l;clear l;obtain⟨B9,l⟩:∃k,k=va.heap.size:=⟨_,rfl⟩;rw[<-l]at u⊢;have v:Row v9 B9 (sJ n (i.length:Int) (L+1) T H F R U 0 (yI V o.length c6)):=u.q;have l9:K.heap.size<=B9:=by rw[l];exact d.top
  have fE:M<B9:=by rw[l];exact m.lt
  have fC:BR<B9:=by rw[l];exact p.lt
  replace f:=f.I b;replace d:=d.I b;replace m:=m.I b;replace p:=p.I b;clear b u y s l;have fF:K.heap.size<=v9.heap.size:=d.top;have u:=m.y 1;have l:=m.lt
  by_cases h6:Q<=U
  case pos =>
   have s:=Y (λB J A S=>xK n i.length (L+1) T H F R U 0 B o J A S ω dF.j (aZ.j ω ω));have b:D=OH n i.length (L+1) T H F o:=aX.j ω ω ω;rw[<-b]at s;unfold MI at s;clear b;go_upto_region 16 with fail;clear u l;refine AV ?_;refine AZ rfl 39 _ rfl B9 0 rfl _ _ v.range underlying39 rfl OQ ?_;simp only[PS];go_wp2_with fail;refine(s.j _ _ _ d.q.prs).J ?_;rintro e vc ⟨B,N,J,S,rfl,cJ,own,g1,g2,b⟩;have lb:=b.size;replace f:=f.I b;clear b s;unfold MD
   try simp only[PS]
   refine‹∀(a:Act) (w:xV),wpList _ _ _ _ a w->_› _ _ ?_
   refine BU rfl 102 _ _ rfl (w.heap.size+1) 0 (dK D.C D.W D.S D.L D.T D.H D.F D.R D.U D.O (yI B D.rs.length N) (yI J D.ops.length S)) rfl rfl (f.r2.there rfl) RQ κ ?_
   try simp only[PS]
   obtain⟨b,y⟩:=f.fin D B N J S cJ own (λg k=>by have:=g1 g k;omega) (λg k=>by have:=g2 g k;omega);have E:=Y y;clear y;generalize G:World.setCells _ _ _ _=y at b E⊢;clear G f
   try go_wp2
   refine TI 4 results83 _ ?_ b ?_ E.j<;>rfl
  have eK:U<Q:=ω
  have cZ:=Y (λA=>au 3 (L+1) (F+U) empty n A δ);have dL:=aY.j ω ω ω;obtain⟨S,b⟩:∃S,S=MJ 3 (L+1) (F+U) empty n:=⟨_,rfl⟩;rw[<-b]at cZ dL;subst dL;clear b;have s:=v.y 7;have y:=v.A 7;have b:=v.lt;go_upto_region 18 with fail;clear s y b u l;have G:=NA (AY v9 (some B9)) 7 (Z (U+1));replace v:Row _ B9 (sJ n (i.length:Int) (L+1) T H F R (U+1) 0 (yI V o.length c6)):=v.set 7 σ (Z (U+1));replace d:=d.V G (λg e=>by cases e;omega);replace f:=f.aside G ω;replace m:=m.V G (λe=>by injection e with e;omega);replace p:=p.V G (λe=>by injection e with e;omega);generalize b:World.setCell _ _ _=vb at v d f m p⊢;clear b G;have u:=m.y 1;have l:=m.lt;have y:=p.y 2;have E:=p.lt;have s:=v.y 2;have b:=v.lt
  go_wp2_with fail;clear u l y E s b;refine(cZ.j _).J ?_;rintro e vc ⟨rfl,b⟩;replace f:=f.I b;replace m:=m.I b;replace p:=p.I b;replace v:=v.I b;replace d:=d.I b;have fG:K.heap.size<=vc.heap.size:=d.top;clear b;go_upto_region 19 with fail;have dD:=(AB vc.heap.size vc).drew;refine TU (13) (S:=λw'=>Row w' B9 (sJ n (i.length:Int) (L+1) T H F R (U+1) 0 (yI V o.length c6))/\Row w' BR [Z T,Z H,Z F,Z R]/\Row w' M [yI O C.length cx,Z U,Z L]) κ (⟨v.I dD,p.I dD,m.I dD⟩) (λu=>?_);refine LU 0 (.agg (sK n (i.length:Int) (L+1) T H F R (U+1) 0 (yI V o.length c6))) rfl (AS ⟨ρ,λw t=>by obtain⟨J,B,z2⟩:=t;exact QI 39 _ rfl _ 0 rfl _ _ J.range underlying39 rfl OQ⟩) u (NL 1 (Z (i.length:Int)) rfl u (LU 2 (zW BR 1) rfl (AS ⟨ρ,λw t=>by obtain⟨J,B,z2⟩:=t;have l:=B.lt;go_simp⟩) u (LU 3 (Z H) rfl (AS ⟨ρ,λw t=>by obtain⟨J,B,z2⟩:=t;have c:=B.y 1;go_simp⟩) u (LU 5 (zW M 1) rfl (AS ⟨ρ,λw t=>by obtain⟨J,B,z2⟩:=t;have l:=z2.lt;go_simp⟩) u (LU 6 (Z U) rfl (AS ⟨ρ,λw t=>by obtain⟨J,B,z2⟩:=t;have c:=z2.y 1;go_simp⟩) u (NL 8 (yQ S) rfl u (NL 10 (.agg #[yR true,Z 0,yQ ⟨#[]⟩]) rfl u ?_)))))))
  simp only[PS];refine NK 4 rfl (λN s=>?_);refine LI ρ 125 #[Z (i.length:Int),Z H] γ (HB.j _) ?_;rintro e E ⟨rfl,b⟩;refine⟨_,rfl,?_⟩;rw[b];clear b E;refine s.j _ _ u (λ_=>?_)
  try simp only[PS]
  refine NL 7 (Z (q+U)) rfl u ?_;simp only[PS];refine NK 9 rfl (λN s=>?_);refine LI ρ 130 #[Z (q+U),yQ S] γ (it _ _ _) ?_;rintro e y9 ⟨rfl,b⟩;refine⟨_,rfl,?_⟩;replace b:=dD.E (b.J dD.size);replace f:=f.I b;replace v:=v.I b;replace m:=m.I b;replace p:=p.I b;replace d:=d.I b;have hv:=b.size;clear b;refine s.j _ _ (⟨v,p,m⟩) (λcA=>?_)
  try simp only[PS]
  refine NK 11 rfl (λN s=>?_);go_simp;generalize G:World.alloc _ _=aS;obtain⟨b,aU,t⟩:=LK G;obtain⟨B4,y⟩:∃k,k=y9.heap.size:=⟨_,rfl⟩;rw[<-y]at t⊢;have r4:=t.q;have l4:K.heap.size<=B4:=ω
  replace f:=f.I b;replace v:=v.I b;replace m:=m.I b;replace p:=p.I b;replace d:=d.I b;clear b t aU y G;refine s.j _ _ (⟨v,p,m⟩) (λaR=>?_)
  try simp only[PS]
  refine NL 12 (.agg (dK 0 n (i.length:Int) (L+1) T H F R (U+1) 0 (yI V o.length c6) (yI (zY B4 0) 2 2))) rfl aR ?_;simp only[PS];refine PM (rs:=[13]) κ σ ?_;refine AllReadyT.last rfl (λN s=>?_);refine SN rfl 102 _ _ rfl (w.heap.size+1) 0 (dK 0 n (i.length:Int) (L+1) T H F R (U+1) 0 (yI V o.length c6) (yI (zY B4 0) 2 2)) rfl rfl (f.r2.there rfl) RQ κ ?_;refine s.j _ _ trivial (λ_=>?_)
  try simp only[PS]
  refine SP κ ?_ _;obtain⟨b,y⟩:=f.fin ⟨0,n,i.length,L+1,T,H,F,R,U+1,0,o,[(false,q+U,S),(true,0,empty)]⟩ V c6 (zY B4 0) 2 eF ⟨d.q,.inr ⟨B4,rfl,r4⟩,ZO (N:=K.heap.size) eH (λg k=>by have:=du k;omega)⟩ (λg k=>by have:=dR g k;omega) (λg k=>by have:=du k;omega);have E:=Y y;clear y;generalize G:World.setCells _ _ _ _=y at b E⊢;clear G f
  try go_wp2
  refine TI (D:=⟨0,n,i.length,L+1,T,H,F,R,U+1,0,o,[(false,q+U,S),(true,0,empty)]⟩) 4 results83 (a:=V) (c:=c6) (b:=zY B4 0) (e:=2) _ ?_ b ?_ E.j<;>rfl
