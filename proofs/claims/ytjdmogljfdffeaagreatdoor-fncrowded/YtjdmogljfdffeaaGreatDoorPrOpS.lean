import Derived.Test.YtjdmogljfdffeaaGreatDoorPrScS
set_option maxHeartbeats 16000000
namespace Go.Proofs.YtjdmogljfdffeaaGreatDoor
open _root_.ByteArray(empty)
open Tryz
open Go.RowKit
set_option linter.all false
set_option maxRecDepth 8000
theorem XM(x:Int)(a:-9223372036854775808<=x)(b:x<=9223372036854775807):IntKind.i64.wrap x=x:=by
 simp[IntKind.wrap,IntKind.bits,IntKind.signed];omega
theorem Hz{l:List Pr}(h:LH l≠[]):l.length≠0:=λe=>h (by rw[AB e];rfl)
theorem bm{l:List ByteArray}(h:l.map Value.string≠[]):l.length≠0:=λe=>h (by rw[AB e];rfl)
def At(v d:World)(c:List ByteArray)(U L:Int)(f:Value):Prop:=∃(a:Nat) (b:Option Addr) (e:Nat),f=.pointer (some ⟨a,0,none⟩)/\Row d a [.slice b c.length e,.int .i64 U,.int .i64 L]/\v.heap.size<=a/\OwnS d b (c.map Value.string)/\(∀g,blk b c.length=some g->v.heap.size<=g)/\Below v.heap.size v d
theorem Dr(a:Option Addr)(i:List ByteArray)(c:Nat)(S:Option Addr)(z:List (Int×ByteArray))(c':Nat)(n:Int)(w:World)(h:Strs w a i)(h':Wrs w S z)(hl:i.length<=1048576)(cU:z.length<=1048576)(hs:∀s∈i,s.size<=1048576)(cW:∀x∈z,x.2.size<=1048576):Calls prog 157 #[LE a i.length c S z.length c',.int .i64 n] w λx w'=>TR w w' x (OM i z n):=by
 have e:=Z (λ(A:World) W m=>WW a i c S z c' A W m hl cU hs cW);obtain⟨D,d⟩:∃D,Hid (D=OM i z n):=⟨_,Z rfl⟩;rw[<-d.l];unfold LE;go_enter func157,ntmps157;go_upto_region 1 with fail;generalize b:w.alloc _=v1;obtain⟨g,l,k⟩:=LF b;clear b;generalize f:v1.alloc _=v2;obtain⟨j,o,b⟩:=LF f;clear f;rw[l]at b;have f:StB w v2 [.slice a i.length c,.slice S z.length c'] (λ_=>True):=⟨g.j (j.A g.size),(k.z j).q,b.q,SK (λ_=>trivial)⟩;have r:w.heap.size+1<v2.heap.size:=b.q.lt;clear g j k b l o;have l:=f.r1.y 0;have g:=f.r1.y 1;have b:=f.r1.lt;unfold LE at e;go_wp2_with fail;clear l g b;refine(e.l _ (h.z f.e) (h'.z f.e)).A ?_;rintro x v3 ⟨rfl,b⟩;replace f:=f.z b;clear b r e
 cases hok:LG i z with
 | false =>
  obtain rfl:D=LD 1:=d.l.j (gw (λk=>by rw[hok]at k;exact absurd k.1 σ));go_upto_region 2 with fail;refine f.noR 1 _ _ rfl γ rfl rfl rfl rfl (λy b G=>?_)
  try simp only[J]
  clear f
  try go_wp2
  refine TP 4 results157 _ ?_ b ?_ G.l<;>rfl
 | true =>
 by_cases hn:1<=n/\n<=8
 case neg =>
  have hd:=AJ hn;obtain rfl:D=LD 1:=d.l.j (gw (λk=>hn k.2));go_upto_region 2 with (go_at_call 37;refine(QO _ _).A ?_;rw[hd];refine NC ?_);refine f.noR 1 _ _ rfl γ rfl rfl rfl rfl (λy b G=>?_)
  try simp only[J]
  clear f
  try go_wp2
  refine TP 4 results157 _ ?_ b ?_ G.l<;>rfl
 have g:=AH hok hn;have hd:=AM hn;have hg:=fo g;have cZ:=my g;obtain⟨⟨eZ,fA,fB⟩,_,_⟩:=PA g.1;have hQ:=PJ (S:=(i.length:Int)) ω;obtain⟨T,H,F,R,l⟩:∃T H F R,MG i z n=(T,H,F,R):=⟨_,_,_,_,rfl⟩;obtain⟨C,U,L,o⟩:∃C U L,NT i z n=(C,U,L):=⟨_,_,_,rfl⟩;have p:SY i z (2+H*hv i.length) (hv i.length) F R n=(C,U,L):=by rw[<-o];unfold NT;rw[l]
 rw[l]at hg;rw[o]at cZ;unfold WG at hg;simp only at hg cZ;obtain⟨j,hH,hF,hR⟩:=hg;obtain⟨hU,hL,eY,b⟩:=cZ;have eM:=Z b;clear b;have bW:=Z (λA W m=>De a i c S z c' n A W m hl cU hs cW);rw[l]at bW;simp only[vr]at bW;have aN:=Z (λA W m=>(Jl a i c S z c' (2+H*hv i.length) (hv i.length) F R n A W m hl cU hs cW).A (λe q b=>qG b));rw[p]at aN;simp only[vu]at aN;have HH:=Z (λA=>XD (i.length:Int) A);have HB:=Z (λA=>ro (i.length:Int) H hH.1 hH.2 A);have dR:=Z (λP cx A W=>Eo P C cx A W ω (λe b=>by have:=eM.l e b;omega));unfold pz LQ at dR;have aF:=Z g;have m:=Z l;have b:=Z o;clear g l o p
 have eK:Hid (MX C []=none->D=LD 2):=λv=>d.l.j (ww aF.l b.l v)
 have eL:Hid (∀o,MX C []=some o->60000<L+1->D=LD 3):=λo v h4=>d.l.j (yk aF.l b.l v h4)
 have dN:Hid (∀o,MX C []=some o->¬60000<L+1->hv i.length-1<LT (LI o) n->D=LD 4):=λo v h4 h5=>d.l.j (tz aF.l b.l v h4 h5)
 have dQ:Hid (∀o,MX C []=some o->¬60000<L+1->¬hv i.length-1<LT (LI o) n->hv i.length<=U->D=OH n i.length (L+1) T H F o):=λo v h4 h5 h6=>d.l.j (ke aF.l m.l b.l v h4 h5 h6)
 have cC:Hid (∀o,MX C []=some o->¬60000<L+1->¬hv i.length-1<LT (LI o) n->¬hv i.length<=U->D=⟨0,n,i.length,L+1,T,H,F,R,U+1,0,o,[(false,2+H*hv i.length+U,LS 3 (L+1) (F+U) empty n),(true,0,empty)]⟩):=λo v h4 h5 h6=>d.l.j (kn aF.l m.l b.l v h4 h5 h6)
 have dV:Hid (∀o,¬60000<L+1->¬hv i.length-1<LT (LI o) n->XN n i.length (L+1) T H F o):=λo h4 h5=>⟨aF.l.2,ω,ω,j,hH,hF,ω⟩
 clear m b d;obtain⟨Q,HQ⟩:∃Q,Hid (Q=hv i.length):=⟨_,Z rfl⟩;obtain⟨q,b⟩:∃q,q=2+H*Q:=⟨_,rfl⟩;rw[<-HQ.l]at hQ hU aN HH HB dN dQ cC dV;rw[<-b]at aN HB cC;have fC:2<=q/\q<=101:=by have:=oh hH (q:=Q) ω;omega
 clear b;have fI:IntKind.i64.wrap (Q-1)=Q-1:=XM _ ω ω;have fH:IntKind.i64.wrap (L+1)=L+1:=XM _ ω ω;have fJ:IntKind.i64.wrap (U+1)=U+1:=XM _ ω ω;have fG:IntKind.i64.wrap (F+U)=F+U:=XM _ ω ω;have fO:IntKind.i64.wrap (q+U)=q+U:=XM _ ω ω;have l:=f.r1.y 0;have g:=f.r1.y 1;have b:=f.r1.lt;unfold LE at bW aN
 go_wp2_with (first|(go_at_call 37;refine(QO _ _).A ?_;rw[hd];refine NC ?_)|(go_at_call 22;refine(HH.l _).A ?_;refine NC ?_))
 clear l g b;refine(bW.l _ (h.z f.e) (h'.z f.e)).A ?_;rintro x v4 ⟨rfl,b⟩;replace f:=f.z b;clear b;go_upto_region 6 with fail;generalize g:v4.alloc _=E;obtain⟨b,m,d⟩:=LF g;clear g;obtain⟨BR,l⟩:∃k,k=v4.heap.size:=⟨_,rfl⟩;rw[<-l]at d⊢;have p:=d.q;replace f:=f.z b;clear b d m l;go_cut [8] from 30 to 41 (λM A=>At E A C U L M)
 case first =>
  have dD:=(AC E.heap.size E).drew;refine YH (13) (S:=λw'=>Row w' w.heap.size [.slice a i.length c,.slice S z.length c']/\Row w' BR [.int .i64 T,.int .i64 H,.int .i64 F,.int .i64 R]) κ (⟨f.r1.z dD,p.z dD⟩) (λu=>?_);refine OZ 0 (.agg #[.slice a i.length c,.slice S z.length c']) rfl (BW ⟨ρ,λw t=>by obtain⟨K,B⟩:=t;have c:=K.y 0;have d:=K.y 1;have l:=K.lt;go_simp⟩) u (MZ 1 (.int .i64 (i.length:Int)) rfl u (OZ 2 (.pointer (some ⟨BR,1,none⟩)) rfl (BW ⟨ρ,λw t=>by obtain⟨K,B⟩:=t;have l:=B.lt;go_simp⟩) u (OZ 3 (.int .i64 H) rfl (BW ⟨ρ,λw t=>by obtain⟨K,B⟩:=t;have c:=B.y 1;go_simp⟩) u (MZ 5 (.int .i64 Q) rfl u (OZ 6 (.pointer (some ⟨BR,2,none⟩)) rfl (BW ⟨ρ,λw t=>by obtain⟨K,B⟩:=t;have l:=B.lt;go_simp⟩) u (OZ 7 (.int .i64 F) rfl (BW ⟨ρ,λw t=>by obtain⟨K,B⟩:=t;have c:=B.y 2;go_simp⟩) u (OZ 8 (.pointer (some ⟨BR,3,none⟩)) rfl (BW ⟨ρ,λw t=>by obtain⟨K,B⟩:=t;have l:=B.lt;go_simp⟩) u (OZ 9 (.int .i64 R) rfl (BW ⟨ρ,λw t=>by obtain⟨K,B⟩:=t;have c:=B.y 3;go_simp⟩) u (MZ 10 (.int .i64 n) rfl u ?_)))))))))
  simp only[J];refine RZ (rs:=[4,12]) κ σ ?_;refine AllReadyT.cons rfl (λO s=>?_) (AllReadyT.cons rfl (λO s=>?_) AllReadyT.nil)
  focus
   refine LC ρ 27 #[.int .i64 (i.length:Int),.int .i64 H] γ (HB.l _) ?_;rintro e G ⟨rfl,b⟩;refine⟨_,rfl,?_⟩;rw[b];clear b G;refine s.l _ _ u (λ_=>?_)
   try simp only[J]
   refine RZ (rs:=[11,12]) κ σ ?_;refine AllReadyT.cons rfl (λO s=>?_) (AllReadyT.cons rfl (λO s=>?_) AllReadyT.nil)
   focus
    obtain⟨X,b⟩:∃y,y=E.drew:=⟨_,rfl⟩;rw[<-b];have j:Below E.heap.size E X:=by rw[b];exact(AC _ _).drew
    clear b;have r:=f.e.j (j.A f.e.size);refine LC ρ 182 #[.agg #[.slice a i.length c,.slice S z.length c'],.int .i64 q,.int .i64 Q,.int .i64 F,.int .i64 R,.int .i64 n] γ (aN.l _ (h.z r) (h'.z r)) ?_;rintro e aS ⟨P,cx,rfl,aL,aM,b⟩;refine⟨_,rfl,?_⟩;have dX:=PD (lo:=X.heap.size) aL bm aM
    have cT:∀g,blk P C.length=some g->E.heap.size<=g:=λg k=>AL j.size (aM g k)
    replace j:=j.j (b.A j.size);clear b aL r;refine s.l _ _ (⟨f.r1.z j,p.z j⟩) (λcI=>?_)
    try simp only[J]
    refine OY 12 rfl (λO s=>?_);go_simp;generalize I:World.alloc _ _=bU;obtain⟨b,aU,G⟩:=LF I;obtain⟨N,r⟩:∃k,k=aS.heap.size:=⟨_,rfl⟩;rw[<-r]at G⊢;have bZ:E.heap.size<=N:=by rw[r];exact j.size
    have m:=G.q;have tX:aS.heap.size<=N:=by rw[r];exact Y _
    replace dX:=dX.z b;replace j:=j.j (b.A j.size);clear b G aU r I;refine s.l _ _ (⟨f.r1.z j,p.z j⟩) (λaR=>?_)
    try simp only[J]
    obtain⟨yz,rfl⟩:∃y,y=bU:=⟨_,rfl⟩;have eG:=aR
   rotate_left
   focus
    obtain⟨X,b⟩:∃y,y=E.drew:=⟨_,rfl⟩;rw[<-b];have j:Below E.heap.size E X:=by rw[b];exact(AC _ _).drew
    clear b;go_simp;generalize I:World.alloc _ _=bU;obtain⟨b,aU,G⟩:=LF I;obtain⟨N,r⟩:∃k,k=X.heap.size:=⟨_,rfl⟩;rw[<-r]at G⊢;have bZ:E.heap.size<=N:=by rw[r];exact j.size
    have m:=G.q;replace j:=j.j (b.A j.size);clear b G aU r I;refine s.l _ _ (⟨f.r1.z j,p.z j⟩) (λeO=>?_)
    try simp only[J]
    refine OY 11 rfl (λO s=>?_);have r:=f.e.j (j.A f.e.size);refine LC ρ 182 #[.agg #[.slice a i.length c,.slice S z.length c'],.int .i64 q,.int .i64 Q,.int .i64 F,.int .i64 R,.int .i64 n] γ (aN.l _ (h.z r) (h'.z r)) ?_;rintro e aS ⟨P,cx,rfl,aL,aM,b⟩;refine⟨_,rfl,?_⟩;have dX:=PD (lo:=bU.heap.size) aL bm aM
    have cT:∀g,blk P C.length=some g->E.heap.size<=g:=λg k=>AL j.size (aM g k)
    have lX:=m.lt;replace m:=m.z b;replace j:=j.j (b.A j.size);clear b aL r;refine s.l _ _ (⟨f.r1.z j,p.z j⟩) (λcJ=>?_)
    try simp only[J]
    obtain⟨yz,rfl⟩:∃y,y=aS:=⟨_,rfl⟩;have eG:=cJ
  rotate_left 2
  focus
   obtain⟨X,b⟩:∃y,y=E.drew:=⟨_,rfl⟩;rw[<-b];have j:Below E.heap.size E X:=by rw[b];exact(AC _ _).drew
   clear b;go_simp;generalize I:World.alloc _ _=bU;obtain⟨b,aU,G⟩:=LF I;obtain⟨N,r⟩:∃k,k=X.heap.size:=⟨_,rfl⟩;rw[<-r]at G⊢;have bZ:E.heap.size<=N:=by rw[r];exact j.size
   have m:=G.q;replace j:=j.j (b.A j.size);clear b G aU r I;refine s.l _ _ (⟨f.r1.z j,p.z j⟩) (λcL=>?_)
   try simp only[J]
   refine OY 4 rfl (λO s=>?_);refine LC ρ 27 #[.int .i64 (i.length:Int),.int .i64 H] γ (HB.l _) ?_;rintro e G ⟨rfl,b⟩;refine⟨_,rfl,?_⟩;rw[b];clear b G;refine s.l _ _ cL (λ_=>?_)
   try simp only[J]
   refine OY 11 rfl (λO s=>?_);have r:=f.e.j (j.A f.e.size);refine LC ρ 182 #[.agg #[.slice a i.length c,.slice S z.length c'],.int .i64 q,.int .i64 Q,.int .i64 F,.int .i64 R,.int .i64 n] γ (aN.l _ (h.z r) (h'.z r)) ?_;rintro e aS ⟨P,cx,rfl,aL,aM,b⟩;refine⟨_,rfl,?_⟩;have dX:=PD (lo:=bU.heap.size) aL bm aM
   have cT:∀g,blk P C.length=some g->E.heap.size<=g:=λg k=>AL j.size (aM g k)
   have lX:=m.lt;replace m:=m.z b;replace j:=j.j (b.A j.size);clear b aL r;refine s.l _ _ (⟨f.r1.z j,p.z j⟩) (λcO=>?_)
   try simp only[J]
   obtain⟨yz,rfl⟩:∃y,y=aS:=⟨_,rfl⟩;have eG:=cO
  all_goals
   refine RZ (rs:=[13]) κ σ ?_;refine AllReadyT.last rfl (λO s=>?_);obtain⟨l0,l1,r⟩:=m.k3;obtain⟨b,G,I⟩:=m.z3;have ll:=m.lt;go_simp;clear l0 l1 r b G I ll;refine s.l _ _ trivial (λ_=>?_)
   try simp only[J]
   refine XH κ ?_ _;have G:=OG (OG (OG (BO yz (some N)) 0 (.slice P C.length cx)) 1 (.int .i64 U)) 2 (.int .i64 L);have I:=((m.set 0 σ (.slice P C.length cx)).set 1 σ (.int .i64 U)).set 2 σ (.int .i64 L)
   have b:=dX.I G (λg e=>by cases e;first|(left;omega)|(right;omega))
   have r:=j.j (MR G j.size (λx e=>by have e:=CZ e;omega));generalize cH:World.setCell (World.setCell (World.setCell _ _ _) _ _) _ _=yC at I b r⊢;clear cH G;go_wp2_with fail;go_meet;exact⟨N,P,cx,rfl,I,bZ,b.q,cT,r⟩
 case rest =>
 obtain⟨N,P,cx,rfl,m,bZ,aL,aM,b⟩:=hcut
 rename World=>v6
 replace f:=f.z b;replace p:=p.z b;clear b;have l:=m.y 0;have b:=m.lt;go_wp2_with fail;clear l b;have l:=Z (dR.l _ cx _ aL.strs)
 cases v:MX C [] with
 | none =>
  obtain rfl:D=LD 2:=eK.l v;rw[v]at l;simp only[JJ,IV,AR]at l;clear v;refine(l.l).A ?_;rintro e M ⟨X,c6,rfl,_,_,_,b⟩;replace f:=f.z b;clear b;go_upto_region 8 with fail;generalize s:M.alloc _=v8;obtain⟨b,y,u⟩:=LF s;clear s y u;replace f:=f.z b;clear b;go_upto_region 9 with fail;refine f.noR 2 _ _ rfl γ rfl rfl rfl rfl (λy b G=>?_)
  try simp only[J]
  clear f
  try go_wp2
  refine TP 4 results157 _ ?_ b ?_ G.l<;>rfl
 | some o =>
  rw[v]at l;simp only[GF,IW]at l;have d:=ei C [] TQ o v;have b:=VS d;have dZ:=Z b.2;have fE:=b.1;have cA:=Z (eL.l o v);have aW:=Z (dN.l o v);have aX:=Z (dQ.l o v);have aY:=Z (cC.l o v);have aZ:=Z (dV.l o);have I:=Z (λB K A W=>qk B o K n A W ω dZ.l);have eQ:=ZP (LI o) n;have fF:=ZI o;obtain⟨r,eN⟩:∃r,Hid (r=LT (LI o) n):=⟨_,Z rfl⟩;rw[<-eN.l]at I eQ aW aX aY aZ;clear v b d;refine(l.l).A ?_;rintro e M ⟨X,c6,rfl,eP,s,eJ,b⟩;have d:=PD (lo:=v6.heap.size) s Hz eJ
  have eT:∀g,blk X o.length=some g->g<M.heap.size:=λg k=>ZW s k
  have l6:=f.r2.lt;have fQ:v6.heap.size<=M.heap.size:=b.size;replace f:=f.z b;replace m:=m.z b;replace p:=p.z b;clear b s l;go_upto_region 8 with fail;generalize s:M.alloc _=v8;obtain⟨b,y,u⟩:=LF s;clear s;obtain⟨B8,l⟩:∃k,k=M.heap.size:=⟨_,rfl⟩;rw[<-l]at u⊢;have s:=u.q;replace f:=f.z b;replace m:=m.z b;replace p:=p.z b;replace d:=d.z b;clear b u y l;have O:=m.y 2;have l:=m.lt
  by_cases h4:60000<L+1
  case pos =>
   obtain rfl:D=LD 3:=cA.l ω;go_upto_region 11 with fail;refine f.noR 3 _ _ rfl γ rfl rfl rfl rfl (λy b G=>?_)
   try simp only[J]
   clear f
   try go_wp2
   refine TP 4 results157 _ ?_ b ?_ G.l<;>rfl
  have eU:L+1<=60000:=ω
  have b:=s.y 0;have v:=s.lt;go_wp2_with fail;clear O l b v;refine(I.l _ _ _ d.q.prs).A ?_;rintro e va ⟨rfl,b⟩;replace f:=f.z b;replace m:=m.z b;replace p:=p.z b;replace s:=s.z b;replace d:=d.z b;clear b I
  by_cases h5:Q-1<r
  case pos =>
   obtain rfl:D=LD 4:=aW.l ω ω;go_upto_region 13 with fail;refine f.noR 4 _ _ rfl γ rfl rfl rfl rfl (λy b G=>?_)
   try simp only[J]
   clear f
   try go_wp2
   refine TP 4 results157 _ ?_ b ?_ G.l<;>rfl
  have eV:r<=Q-1:=ω
  have u:=m.y 1;have O:=m.y 2;have l:=m.lt;obtain⟨I,t1,y,t3⟩:=p.k4;have G:=p.lt;have b:=s.y 0;have v:=s.lt;go_upto_region 15 with fail;clear u O l I t1 y t3 G b v;generalize l:va.alloc _=v9;obtain⟨b,y,u⟩:=LF l;clear l;obtain⟨B9,l⟩:∃k,k=va.heap.size:=⟨_,rfl⟩;rw[<-l]at u⊢;have v:Row v9 B9 (sJ n (i.length:Int) (L+1) T H F R U 0 (.slice X o.length c6)):=u.q;have l9:M.heap.size<=B9:=by rw[l];exact d.top
  have fT:N<B9:=by rw[l];exact m.lt
  have fS:BR<B9:=by rw[l];exact p.lt
  replace f:=f.z b;replace d:=d.z b;replace m:=m.z b;replace p:=p.z b;clear b u y s l;have fU:M.heap.size<=v9.heap.size:=d.top;have u:=m.y 1;have l:=m.lt
  by_cases h6:Q<=U
  case pos =>
   have s:=Z (λB K A W=>uI n i.length (L+1) T H F R U 0 B o K A W ω dZ.l (aZ.l ω ω));have b:D=OH n i.length (L+1) T H F o:=aX.l ω ω ω;rw[<-b]at s;unfold MM at s;clear b;go_upto_region 16 with fail;clear u l;refine BG ?_;refine AS rfl 33 _ rfl B9 0 rfl _ _ v.range underlying33 rfl PC ?_;simp only[J];go_wp2_with fail;refine(s.l _ _ _ d.q.prs).A ?_;rintro e vc ⟨B,O,K,W,rfl,cS,own,g1,g2,b⟩;have lb:=b.size;replace f:=f.z b;clear b s;unfold MV
   try simp only[J]
   refine‹∀(a:Act) (w:World),wpList _ _ _ _ a w->_› _ _ ?_
   refine BI rfl 48 _ _ rfl (w.heap.size+1) 0 (dK D.C D.W D.S D.L D.T D.H D.F D.R D.U D.O (.slice B D.rs.length O) (.slice K D.ops.length W)) rfl rfl (f.r2.there rfl) TH κ ?_
   try simp only[J]
   obtain⟨b,y⟩:=f.fin D B O K W cS own (λg k=>by have:=g1 g k;omega) (λg k=>by have:=g2 g k;omega);have G:=Z y;clear y;generalize I:World.setCells _ _ _ _=y at b G⊢;clear I f
   try go_wp2
   refine TP 4 results157 _ ?_ b ?_ G.l<;>rfl
  have eX:U<Q:=ω
  have dU:=Z (λA=>bw 3 (L+1) (F+U) empty n A δ);have eC:=aY.l ω ω ω;obtain⟨W,b⟩:∃W,W=LS 3 (L+1) (F+U) empty n:=⟨_,rfl⟩;rw[<-b]at dU eC;subst eC;clear b;have s:=v.y 7;have y:=v.E 7;have b:=v.lt;go_upto_region 18 with fail;clear s y b u l;have G:=OG (BO v9 (some B9)) 7 (.int .i64 (U+1));replace v:Row _ B9 (sJ n (i.length:Int) (L+1) T H F R (U+1) 0 (.slice X o.length c6)):=v.set 7 σ (.int .i64 (U+1));replace d:=d.I G (λg e=>by cases e;omega);replace f:=f.aside G ω;replace m:=m.I G (λe=>by injection e with e;omega);replace p:=p.I G (λe=>by injection e with e;omega);generalize b:World.setCell _ _ _=vb at v d f m p⊢;clear b G;have u:=m.y 1;have l:=m.lt;have y:=p.y 2;have G:=p.lt;have s:=v.y 2;have b:=v.lt
  go_wp2_with fail;clear u l y G s b;refine(dU.l _).A ?_;rintro e vc ⟨rfl,b⟩;replace f:=f.z b;replace m:=m.z b;replace p:=p.z b;replace v:=v.z b;replace d:=d.z b;have fV:M.heap.size<=vc.heap.size:=d.top;clear b;go_upto_region 19 with fail;have dD:=(AC vc.heap.size vc).drew;refine YH (13) (S:=λw'=>Row w' B9 (sJ n (i.length:Int) (L+1) T H F R (U+1) 0 (.slice X o.length c6))/\Row w' BR [.int .i64 T,.int .i64 H,.int .i64 F,.int .i64 R]/\Row w' N [.slice P C.length cx,.int .i64 U,.int .i64 L]) κ (⟨v.z dD,p.z dD,m.z dD⟩) (λu=>?_);refine OZ 0 (.agg (sK n (i.length:Int) (L+1) T H F R (U+1) 0 (.slice X o.length c6))) rfl (BW ⟨ρ,λw t=>by obtain⟨K,B,z2⟩:=t;exact RK 33 _ rfl _ 0 rfl _ _ K.range underlying33 rfl PC⟩) u (MZ 1 (.int .i64 (i.length:Int)) rfl u (OZ 2 (.pointer (some ⟨BR,1,none⟩)) rfl (BW ⟨ρ,λw t=>by obtain⟨K,B,z2⟩:=t;have l:=B.lt;go_simp⟩) u (OZ 3 (.int .i64 H) rfl (BW ⟨ρ,λw t=>by obtain⟨K,B,z2⟩:=t;have c:=B.y 1;go_simp⟩) u (OZ 5 (.pointer (some ⟨N,1,none⟩)) rfl (BW ⟨ρ,λw t=>by obtain⟨K,B,z2⟩:=t;have l:=z2.lt;go_simp⟩) u (OZ 6 (.int .i64 U) rfl (BW ⟨ρ,λw t=>by obtain⟨K,B,z2⟩:=t;have c:=z2.y 1;go_simp⟩) u (MZ 8 (.string W) rfl u (MZ 10 (.agg #[.bool true,.int .i64 0,.string ⟨#[]⟩]) rfl u ?_)))))))
  simp only[J];refine OY 4 rfl (λO s=>?_);refine LC ρ 27 #[.int .i64 (i.length:Int),.int .i64 H] γ (HB.l _) ?_;rintro e G ⟨rfl,b⟩;refine⟨_,rfl,?_⟩;rw[b];clear b G;refine s.l _ _ u (λ_=>?_)
  try simp only[J]
  refine MZ 7 (.int .i64 (q+U)) rfl u ?_;simp only[J];refine OY 9 rfl (λO s=>?_);refine LC ρ 26 #[.int .i64 (q+U),.string W] γ (iw _ _ _) ?_;rintro e y9 ⟨rfl,b⟩;refine⟨_,rfl,?_⟩;replace b:=dD.j (b.A dD.size);replace f:=f.z b;replace v:=v.z b;replace m:=m.z b;replace p:=p.z b;replace d:=d.z b;have hv:=b.size;clear b;refine s.l _ _ (⟨v,p,m⟩) (λcI=>?_)
  try simp only[J]
  refine OY 11 rfl (λO s=>?_);go_simp;generalize I:World.alloc _ _=aS;obtain⟨b,aU,t⟩:=LF I;obtain⟨B4,y⟩:∃k,k=y9.heap.size:=⟨_,rfl⟩;rw[<-y]at t⊢;have r4:=t.q;have l4:M.heap.size<=B4:=ω
  replace f:=f.z b;replace v:=v.z b;replace m:=m.z b;replace p:=p.z b;replace d:=d.z b;clear b t aU y I;refine s.l _ _ (⟨v,p,m⟩) (λaR=>?_)
  try simp only[J]
  refine MZ 12 (.agg (dK 0 n (i.length:Int) (L+1) T H F R (U+1) 0 (.slice X o.length c6) (.slice (some ⟨B4,0,none⟩) 2 2))) rfl aR ?_;simp only[J];refine RZ (rs:=[13]) κ σ ?_;refine AllReadyT.last rfl (λO s=>?_);refine SU rfl 48 _ _ rfl (w.heap.size+1) 0 (dK 0 n (i.length:Int) (L+1) T H F R (U+1) 0 (.slice X o.length c6) (.slice (some ⟨B4,0,none⟩) 2 2)) rfl rfl (f.r2.there rfl) TH κ ?_;refine s.l _ _ trivial (λ_=>?_)
  try simp only[J]
  refine XH κ ?_ _;obtain⟨b,y⟩:=f.fin ⟨0,n,i.length,L+1,T,H,F,R,U+1,0,o,[(false,q+U,W),(true,0,empty)]⟩ X c6 (some ⟨B4,0,none⟩) 2 eP ⟨d.q,.inr ⟨B4,rfl,r4⟩,ZV (N:=M.heap.size) eT (λg k=>by have:=ee k;omega)⟩ (λg k=>by have:=eJ g k;omega) (λg k=>by have:=ee k;omega);have G:=Z y;clear y;generalize I:World.setCells _ _ _ _=y at b G⊢;clear I f
  try go_wp2
  refine TP (D:=⟨0,n,i.length,L+1,T,H,F,R,U+1,0,o,[(false,q+U,W),(true,0,empty)]⟩) 4 results157 (a:=X) (c:=c6) (b:=some ⟨B4,0,none⟩) (e:=2) _ ?_ b ?_ G.l<;>rfl
