import Derived.Test.YtkdedmclofhndaaGreatDoorPrG45
import Derived.Test.YtkdedmclofhndaaGreatDoorPrOpS
import Derived.Test.YtkdedmclofhndaaGreatDoorPrG26
import Derived.Test.YtkdedmclofhndaaGreatDoorPrMvC
set_option maxHeartbeats 16000000
namespace Go.Proofs.YtkdedmclofhndaaGreatDoor
open Tryz
open Go.RowKit
set_option linter.all false
set_option maxRecDepth 8000
def A5(v d:xV)(c:List yZ)(U L:Int)(f:qD):Prop:=∃(a:Nat) (b:xA) (e:Nat),f=zW a 0/\Row d a [yI b c.length e,Z U,Z L]/\v.heap.size<=a/\OwnS d b (c.map Value.string)/\(∀g,blk b c.length=some g->v.heap.size<=g)/\yX v d
theorem ug(a:xA)(j:List yZ)(c:Nat)(K:xA)(u:List (Int×yZ))(S:Nat)(n:Int)(w:xV)(h:Strs w a j)(h':Wrs w K u)(hl:j.length<=1048576)(cW:u.length<=1048576)(hs:∀s∈j,s.size<=1048576)(cZ:∀x∈u,x.2.size<=1048576)
  (ty:TypeId)(v:qD)(cH:w.cell? (yA 7 0)=some (.iface ty v))(cA:w.cell? (yA 1 0)=some (.iface 320 (.agg #[zW 10 57])))(eQ:7<w.heap.size):Calls prog 117 #[LM a j.length c K u.length S,Z n] w λx p=>ef w p x (NM j u n):=by
 have e:=Y (λ(s:xV) V k2=>WA a j c K u S s V k2 hl cW hs cZ);obtain⟨D,d⟩:∃D,Hid (D=NM j u n):=⟨_,Y rfl⟩;rw[<-d.j];unfold LM;go_enter func117,ntmps117;go_upto_region 1 with fail;generalize b:w.alloc _=v1;obtain⟨g,l,k⟩:=LK b;clear b;generalize f:v1.alloc _=v2;obtain⟨i,m,b⟩:=LK f;clear f;rw[l]at b;have f:StB w v2 [yI a j.length c,yI K u.length S] (λ_=>True):=⟨g.E (i.J g.size),(k.I i).q,b.q,UO (λ_=>trivial)⟩;have r:w.heap.size+1<v2.heap.size:=b.q.lt;clear g i k b l m;have l:=f.r1.y 0;have g:=f.r1.y 1;have o:=f.r1.lt;unfold LM at e;go_wp2_with fail;clear l g o;refine(e.j _ (h.I f.e) (h'.I f.e)).J ?_;rintro x v3 ⟨rfl,b⟩;replace f:=f.I b;clear b r e
 cases hok:LO j u with
 | false =>
  obtain rfl:D=LJ 1:=d.j.E (ic (λk=>by rw[hok]at k;exact absurd k.1 σ));clear cH cA;go_upto_region 2 with fail;refine f.noR 1 _ _ rfl γ rfl rfl rfl rfl (λy b l=>?_)
  try simp only[PS]
  clear f
  try go_wp2
  refine UZ 4 results117 _ ?_ b ?_ l.j<;>rfl
 | true =>
 by_cases hn:1<=n/\n<=8
 case neg =>
  have hd:=AH hn;obtain rfl:D=LJ 1:=d.j.E (ic (λk=>hn k.2));clear cH cA;go_upto_region 2 with (go_at_call 36;refine(RH _ _).J ?_;rw[hd];refine NE ?_);refine f.noR 1 _ _ rfl γ rfl rfl rfl rfl (λy b l=>?_)
  try simp only[PS]
  clear f
  try go_wp2
  refine UZ 4 results117 _ ?_ b ?_ l.j<;>rfl
 have l:=AG hok hn;have hd:=AM hn;have hg:=fg l;have dF:=mz l;obtain⟨⟨fA,fC,fE⟩,_,_⟩:=OV l.1;have hQ:=PG (S:=(j.length:Int)) ω;obtain⟨T,H,F,R,m⟩:∃T H F R,MQ j u n=(T,H,F,R):=⟨_,_,_,_,rfl⟩;obtain⟨A,U,L,o⟩:∃A U L,OA j u n=(A,U,L):=⟨_,_,_,rfl⟩;have r:TG j u (2+H*hv j.length) (hv j.length) F R n=(A,U,L):=by rw[<-o];unfold OA;rw[m]
 rw[m]at hg;rw[o]at dF;unfold WC at hg;simp only at hg dF;obtain⟨i,hH,hF,hR⟩:=hg;obtain⟨hU,hL,eZ,b⟩:=dF;have eK:=Y b;clear b;have dU:=Y (λs (b:yX w s)=>((b.cell (p:=(yA 7 0)) eQ).E cH));have dR:=Y (λs (b:yX w s)=>((b.cell (p:=(yA 1 0)) (by show 1<_;omega)).E cA));have bY:=Y (λs V k2 (b:yX w s)=>Mj a j c K u S n s V k2 hl cW hs cZ ty v (dU.j _ b) (dR.j _ b) (by have:=b.size;omega));rw[m]at bY;simp only[YV]at bY;have g:=oy hH (q:=hv j.length) ω;have aO:=Y (λs V k2 (b:yX w s)=>(Ap a j c K u S (2+H*hv j.length) (hv j.length) F R n s V k2 hl cW hs cZ ω ω ty v (dU.j _ b) (dR.j _ b) (by have:=b.size;omega)).J (λe t q=>tD q));rw[r]at aO;simp only[xc]at aO;have HH:=Y (λs=>aa (j.length:Int) s);have HB:=Y (λs=>zJ (j.length:Int) H hH.1 hH.2 s)
 have dQ:=Y (λJ X s V=>Nh J A X s V ω (λe q=>by have:=eK.j e q;omega));unfold qk LR at dQ;clear g cH cA;have aH:=Y l;have q:=Y m;have g:=Y o;clear l m o r
 have eI:Hid (NV A []=none->D=LJ 2):=λt=>d.j.E (xz aH.j g.j t)
 have eJ:Hid (∀m,NV A []=some m->60000<L+1->D=LJ 3):=λm t h4=>d.j.E (zg aH.j g.j t h4)
 have dN:Hid (∀m,NV A []=some m->¬60000<L+1->hv j.length-1<MG (MK m) n->D=LJ 4):=λm t h4 h5=>d.j.E (uq aH.j g.j t h4 h5)
 have dP:Hid (∀m,NV A []=some m->¬60000<L+1->¬hv j.length-1<MG (MK m) n->hv j.length<=U->D=OH n j.length (L+1) T H F m):=λm t h4 h5 h6=>d.j.E (se aH.j q.j g.j t h4 h5 h6)
 have cJ:Hid (∀m,NV A []=some m->¬60000<L+1->¬hv j.length-1<MG (MK m) n->¬hv j.length<=U->D=⟨0,n,j.length,L+1,T,H,F,R,U+1,0,m,[(false,2+H*hv j.length+U,MJ 3 (L+1) (F+U) ByteArray.empty n),(true,0,ByteArray.empty)]⟩):=λm t h4 h5 h6=>d.j.E (td aH.j q.j g.j t h4 h5 h6)
 have dV:Hid (∀m,¬60000<L+1->¬hv j.length-1<MG (MK m) n->XD n j.length (L+1) T H F m):=λm h4 h5=>⟨aH.j.2,ω,ω,i,hH,hF,ω⟩
 clear q g d;obtain⟨Q,HQ⟩:∃Q,Hid (Q=hv j.length):=⟨_,Y rfl⟩;obtain⟨q,d⟩:∃q,q=2+H*Q:=⟨_,rfl⟩;rw[<-HQ.j]at hQ hU aO HH HB dN dP cJ dV;rw[<-d]at aO HB cJ;have fF:2<=q/\q<=101:=by have:=oy hH (q:=Q) ω;omega
 have eL:Hid (2+H*hv j.length=q):=by show _=_;rw[d,HQ.j]
 clear d;have fJ:IntKind.i64.wrap (Q-1)=Q-1:=XC _ ω ω;have fI:IntKind.i64.wrap (L+1)=L+1:=XC _ ω ω;have fO:IntKind.i64.wrap (U+1)=U+1:=XC _ ω ω;have fH:IntKind.i64.wrap (F+U)=F+U:=XC _ ω ω;have fQ:IntKind.i64.wrap (q+U)=q+U:=XC _ ω ω;have l:=f.r1.y 0;have g:=f.r1.y 1;have o:=f.r1.lt;unfold LM at bY aO;go_wp2_with (go_at_call 36;refine(RH _ _).J ?_;rw[hd];refine NE ?_);clear l g o;refine(bY.j _ (h.I f.e) (h'.I f.e) f.e).J ?_;rintro x v4 ⟨rfl,b⟩;replace f:=f.I b;clear b;go_upto_region 5 with fail;generalize g:v4.alloc _=z;obtain⟨b,o,d⟩:=LK g;clear g;obtain⟨BR,l⟩:∃k,k=v4.heap.size:=⟨_,rfl⟩;rw[<-l]at d⊢;have B:=d.q;replace f:=f.I b;clear b d o l;go_cut [7] from 26 to 38 (λv7 s=>A5 z s A U L v7)
 case first =>
  have dD:=(AB z.heap.size z).drew;refine TU (14) (S:=λp=>Row p w.heap.size [yI a j.length c,yI K u.length S]/\Row p BR [Z T,Z H,Z F,Z R]) κ (⟨f.r1.I dD,B.I dD⟩) (λM=>?_);refine LU 0 (.agg #[yI a j.length c,yI K u.length S]) rfl (AS ⟨ρ,λw b=>by obtain⟨z0,O⟩:=b;have c:=z0.y 0;have d:=z0.y 1;have l:=z0.lt;go_simp⟩) M (NL 1 (Z (j.length:Int)) rfl M (LU 2 (zW BR 1) rfl (AS ⟨ρ,λw b=>by obtain⟨z0,O⟩:=b;have l:=O.lt;go_simp⟩) M (LU 3 (Z H) rfl (AS ⟨ρ,λw b=>by obtain⟨z0,O⟩:=b;have c:=O.y 1;go_simp⟩) M (NL 5 (Z (j.length:Int)) rfl M (LU 7 (zW BR 2) rfl (AS ⟨ρ,λw b=>by obtain⟨z0,O⟩:=b;have l:=O.lt;go_simp⟩) M (LU 8 (Z F) rfl (AS ⟨ρ,λw b=>by obtain⟨z0,O⟩:=b;have c:=O.y 2;go_simp⟩) M (LU 9 (zW BR 3) rfl (AS ⟨ρ,λw b=>by obtain⟨z0,O⟩:=b;have l:=O.lt;go_simp⟩) M (LU 10 (Z R) rfl (AS ⟨ρ,λw b=>by obtain⟨z0,O⟩:=b;have c:=O.y 3;go_simp⟩) M (NL 11 (Z n) rfl M ?_)))))))))
  simp only[PS];refine PM (rs:=[4,13]) κ σ ?_;refine AllReadyT.cons rfl (λI o=>?_) (AllReadyT.cons rfl (λI o=>?_) AllReadyT.nil)
  focus
   refine LI ρ 167 #[Z (j.length:Int),Z H] γ (HB.j _) ?_;rintro e r ⟨rfl,b⟩;refine⟨_,rfl,?_⟩;rw[b];clear b r;refine o.j _ _ M (λ_=>?_)
   try simp only[PS]
   refine PM (rs:=[6,13]) κ σ ?_;refine AllReadyT.cons rfl (λI o=>?_) (AllReadyT.cons rfl (λI o=>?_) AllReadyT.nil)
   focus
    refine LI ρ 78 #[Z (j.length:Int)] γ (HH.j _) ?_;rintro e r ⟨rfl,b⟩;refine⟨_,rfl,?_⟩;rw[b];clear b r;refine o.j _ _ M (λ_=>?_)
    try simp only[PS]
    refine PM (rs:=[12,13]) κ σ ?_;refine AllReadyT.cons rfl (λI o=>?_) (AllReadyT.cons rfl (λI o=>?_) AllReadyT.nil)
    focus
     obtain⟨W,b⟩:∃y,y=z.drew:=⟨_,rfl⟩;rw[<-b];have i:yX z W:=by show Below (z.heap.size) z W;rw[b];exact(AB _ _).drew
     clear b;have r:=f.e.E (i.J f.e.size);refine LI ρ 166 #[.agg #[yI a j.length c,yI K u.length S],Z q,Z Q,Z F,Z R,Z n] γ (aO.j _ (h.I r) (h'.I r) r) ?_;rintro e aQ ⟨J,X,rfl,E,N,b⟩;refine⟨_,rfl,?_⟩;have dX:=QF (lo:=W.heap.size) E ak N
     have cE:∀g,blk J A.length=some g->z.heap.size<=g:=λg k=>AJ i.size (N g k)
     replace i:=i.E (b.J i.size);clear b E r;refine o.j _ _ (⟨f.r1.I i,B.I i⟩) (λeO=>?_)
     try simp only[PS]
     refine NK 13 rfl (λI o=>?_);go_simp;generalize C:World.alloc _ _=aU;obtain⟨b,G,E⟩:=LK C;obtain⟨P,r⟩:∃k,k=aQ.heap.size:=⟨_,rfl⟩;rw[<-r]at E⊢;have bQ:z.heap.size<=P:=by rw[r];exact i.size
     have p:=E.q;have tX:aQ.heap.size<=P:=by rw[r];exact AA _
     replace dX:=dX.I b;replace i:=i.E (b.J i.size);clear b E G r C;refine o.j _ _ (⟨f.r1.I i,B.I i⟩) (λcM=>?_)
     try simp only[PS]
     obtain⟨yz,rfl⟩:∃y,y=aU:=⟨_,rfl⟩;have cQ:=cM
    rotate_left
    focus
     obtain⟨W,b⟩:∃y,y=z.drew:=⟨_,rfl⟩;rw[<-b];have i:yX z W:=by show Below (z.heap.size) z W;rw[b];exact(AB _ _).drew
     clear b;go_simp;generalize C:World.alloc _ _=aU;obtain⟨b,G,E⟩:=LK C;obtain⟨P,r⟩:∃k,k=W.heap.size:=⟨_,rfl⟩;rw[<-r]at E⊢;have bQ:z.heap.size<=P:=by rw[r];exact i.size
     have p:=E.q;replace i:=i.E (b.J i.size);clear b E G r C;refine o.j _ _ (⟨f.r1.I i,B.I i⟩) (λeP=>?_)
     try simp only[PS]
     refine NK 12 rfl (λI o=>?_);have r:=f.e.E (i.J f.e.size);refine LI ρ 166 #[.agg #[yI a j.length c,yI K u.length S],Z q,Z Q,Z F,Z R,Z n] γ (aO.j _ (h.I r) (h'.I r) r) ?_;rintro e aQ ⟨J,X,rfl,E,N,b⟩;refine⟨_,rfl,?_⟩;have dX:=QF (lo:=aU.heap.size) E ak N
     have cE:∀g,blk J A.length=some g->z.heap.size<=g:=λg k=>AJ i.size (N g k)
     have lX:=p.lt;replace p:=p.I b;replace i:=i.E (b.J i.size);clear b E r;refine o.j _ _ (⟨f.r1.I i,B.I i⟩) (λcN=>?_)
     try simp only[PS]
     obtain⟨yz,rfl⟩:∃y,y=aQ:=⟨_,rfl⟩;have cQ:=cN
   rotate_left 2
   focus
    obtain⟨W,b⟩:∃y,y=z.drew:=⟨_,rfl⟩;rw[<-b];have i:yX z W:=by show Below (z.heap.size) z W;rw[b];exact(AB _ _).drew
    clear b;go_simp;generalize C:World.alloc _ _=aU;obtain⟨b,G,E⟩:=LK C;obtain⟨P,r⟩:∃k,k=W.heap.size:=⟨_,rfl⟩;rw[<-r]at E⊢;have bQ:z.heap.size<=P:=by rw[r];exact i.size
    have p:=E.q;replace i:=i.E (b.J i.size);clear b E G r C;refine o.j _ _ (⟨f.r1.I i,B.I i⟩) (λcO=>?_)
    try simp only[PS]
    refine NK 6 rfl (λI o=>?_);refine LI ρ 78 #[Z (j.length:Int)] γ (HH.j _) ?_;rintro e r ⟨rfl,b⟩;refine⟨_,rfl,?_⟩;rw[b];clear b r;refine o.j _ _ cO (λ_=>?_)
    try simp only[PS]
    refine NK 12 rfl (λI o=>?_);have r:=f.e.E (i.J f.e.size);refine LI ρ 166 #[.agg #[yI a j.length c,yI K u.length S],Z q,Z Q,Z F,Z R,Z n] γ (aO.j _ (h.I r) (h'.I r) r) ?_;rintro e aQ ⟨J,X,rfl,E,N,b⟩;refine⟨_,rfl,?_⟩;have dX:=QF (lo:=aU.heap.size) E ak N
    have cE:∀g,blk J A.length=some g->z.heap.size<=g:=λg k=>AJ i.size (N g k)
    have lX:=p.lt;replace p:=p.I b;replace i:=i.E (b.J i.size);clear b E r;refine o.j _ _ (⟨f.r1.I i,B.I i⟩) (λcP=>?_)
    try simp only[PS]
    obtain⟨yz,rfl⟩:∃y,y=aQ:=⟨_,rfl⟩;have cQ:=cP
  rotate_left 3
  focus
   obtain⟨W,b⟩:∃y,y=z.drew:=⟨_,rfl⟩;rw[<-b];have i:yX z W:=by show Below (z.heap.size) z W;rw[b];exact(AB _ _).drew
   clear b;go_simp;generalize C:World.alloc _ _=aU;obtain⟨b,G,E⟩:=LK C;obtain⟨P,r⟩:∃k,k=W.heap.size:=⟨_,rfl⟩;rw[<-r]at E⊢;have bQ:z.heap.size<=P:=by rw[r];exact i.size
   have p:=E.q;replace i:=i.E (b.J i.size);clear b E G r C;refine o.j _ _ (⟨f.r1.I i,B.I i⟩) (λC=>?_)
   try simp only[PS]
   refine NK 4 rfl (λI o=>?_);refine LI ρ 167 #[Z (j.length:Int),Z H] γ (HB.j _) ?_;rintro e r ⟨rfl,b⟩;refine⟨_,rfl,?_⟩;rw[b];clear b r;refine o.j _ _ C (λ_=>?_)
   try simp only[PS]
   refine NK 6 rfl (λI o=>?_);refine LI ρ 78 #[Z (j.length:Int)] γ (HH.j _) ?_;rintro e r ⟨rfl,b⟩;refine⟨_,rfl,?_⟩;rw[b];clear b r;refine o.j _ _ C (λ_=>?_)
   try simp only[PS]
   refine NK 12 rfl (λI o=>?_);have r:=f.e.E (i.J f.e.size);refine LI ρ 166 #[.agg #[yI a j.length c,yI K u.length S],Z q,Z Q,Z F,Z R,Z n] γ (aO.j _ (h.I r) (h'.I r) r) ?_;rintro e aQ ⟨J,X,rfl,E,N,b⟩;refine⟨_,rfl,?_⟩;have dX:=QF (lo:=aU.heap.size) E ak N
   have cE:∀g,blk J A.length=some g->z.heap.size<=g:=λg k=>AJ i.size (N g k)
   have lX:=p.lt;replace p:=p.I b;replace i:=i.E (b.J i.size);clear b E r;refine o.j _ _ (⟨f.r1.I i,B.I i⟩) (λbT=>?_)
   try simp only[PS]
   obtain⟨yz,rfl⟩:∃y,y=aQ:=⟨_,rfl⟩;have cQ:=bT
  all_goals
   refine PM (rs:=[14]) κ σ ?_;refine AllReadyT.last rfl (λI o=>?_);obtain⟨l0,l1,r⟩:=p.k3;obtain⟨b,E,G⟩:=p.z3;have ll:=p.lt;go_simp;clear l0 l1 r b E G ll;refine o.j _ _ trivial (λ_=>?_)
   try simp only[PS]
   refine SP κ ?_ _;have G:=NA (NA (NA (AY yz (some P)) 0 (yI J A.length X)) 1 (Z U)) 2 (Z L);have E:=((p.set 0 σ (yI J A.length X)).set 1 σ (Z U)).set 2 σ (Z L)
   have b:=dX.V G (λg e=>by cases e;first|(left;omega)|(right;omega))
   have r:=i.E (MF G i.size (λx e=>by have e:=BP e;omega));generalize cL:World.setCell (World.setCell (World.setCell _ _ _) _ _) _ _=yC at E b r⊢;clear cL G;go_wp2_with fail;go_meet;exact⟨P,J,X,rfl,E,bQ,b.q,cE,r⟩
 case rest =>
 obtain⟨P,J,X,rfl,p,bQ,E,N,b⟩:=hcut
 rename World=>v6
 replace f:=f.I b;replace B:=B.I b;clear b;have l:=p.y 0;have o:=p.lt;go_wp2_with fail;clear l o;have o:=Y (dQ.j _ X _ E.strs)
 cases t:NV A [] with
 | none =>
  obtain rfl:D=LJ 2:=eI.j t;rw[t]at o;simp only[JS,JH,AT]at o;clear t;refine(o.j).J ?_;rintro e v7 ⟨a6,c6,rfl,_,_,_,b⟩;replace f:=f.I b;clear b;go_upto_region 7 with fail;generalize l:v7.alloc _=v8;obtain⟨b,M,y⟩:=LK l;clear l M y;replace f:=f.I b;clear b;go_upto_region 8 with fail;refine f.noR 2 _ _ rfl γ rfl rfl rfl rfl (λy b l=>?_)
  try simp only[PS]
  clear f
  try go_wp2
  refine UZ 4 results117 _ ?_ b ?_ l.j<;>rfl
 | some m =>
  rw[t]at o;simp only[GC,JI]at o;have d:=dx A [] VB m t;have b:=UN d;have dZ:=Y b.2;have fG:=b.1;have cI:=Y (eJ.j m t);have aY:=Y (dN.j m t);have aZ:=Y (dP.j m t);have bB:=Y (cJ.j m t);have bC:=Y (dV.j m);have C:=Y (λG I s V k2=>tq n j.length (L+1) T H F R U 0 G m I s V k2 ω dZ.j);have O:=Y (λG I s=>wP n j.length (L+1) T H F R U 0 G m.length I s ω ω);unfold MI at C O;rw[<-HQ.j]at C O;obtain⟨r,eM⟩:∃r,Hid (r=MG (MK m) n):=⟨_,Y rfl⟩;rw[<-eM.j]at C aY aZ bB bC;clear t b d;refine(o.j).J ?_;rintro e v7 ⟨a6,c6,rfl,cC,l,cV,b⟩;have d:=QF (lo:=v6.heap.size) l RG cV
  have eH:∀g,blk a6 m.length=some g->g<v7.heap.size:=λg k=>ZP l k
  have l6:=f.r2.lt;have fT:v6.heap.size<=v7.heap.size:=b.size;replace f:=f.I b;replace p:=p.I b;replace B:=B.I b;clear b l o;go_upto_region 7 with fail;generalize l:v7.alloc _=v8;obtain⟨b,M,y⟩:=LK l;clear l;obtain⟨B8,l⟩:∃k,k=v7.heap.size:=⟨_,rfl⟩;rw[<-l]at y⊢;have t:=y.q;replace f:=f.I b;replace p:=p.I b;replace B:=B.I b;replace d:=d.I b;clear b y M l;have x1:=p.y 1;have x2:=p.y 2;have xl:=p.lt;obtain⟨o,y,M,W⟩:=B.k4;have tl:=B.lt;have b:=t.y 0;have l:=t.lt;go_upto_region 10 with fail;clear x1 x2 xl o y M W tl b l;generalize o:v8.alloc _=v9;obtain⟨b,W,l⟩:=LK o;clear o;obtain⟨M,y⟩:∃k,k=v8.heap.size:=⟨_,rfl⟩;rw[<-y]at l⊢;have o:Row v9 M (sJ n (j.length:Int) (L+1) T H F R U 0 (yI a6 m.length c6)):=l.q;replace f:=f.I b;replace d:=d.I b;clear b l W p B t y;have t:=o.y 2
  have p:=o.lt
  by_cases h4:60000<L+1
  case pos =>
   obtain rfl:D=LJ 3:=cI.j ω;go_upto_region 11 with fail;refine f.noR 3 _ _ rfl γ rfl rfl rfl rfl (λy b l=>?_)
   try simp only[PS]
   clear f
   try go_wp2
   refine UZ 4 results117 _ ?_ b ?_ l.j<;>rfl
  have eV:L+1<=60000:=ω
  go_upto_region 12 with fail;clear t p;refine AV ?_;refine AZ rfl 39 _ rfl M 0 rfl _ _ o.range underlying39 rfl OQ ?_;simp only[PS];go_wp2_with fail;refine(C.j _ _ _ d.q.prs cC).J ?_;rintro e va ⟨rfl,b⟩;replace f:=f.I b;replace o:=o.I b;replace d:=d.I b;clear b C
  by_cases h5:Q-1<r
  case pos =>
   obtain rfl:D=LJ 4:=aY.j ω ω;rw[AH (show ¬r<=Q-1 by omega)];go_upto_region 13 with fail;refine f.noR 4 _ _ rfl γ rfl rfl rfl rfl (λy b l=>?_)
   try simp only[PS]
   clear f
   try go_wp2
   refine UZ 4 results117 _ ?_ b ?_ l.j<;>rfl
  rw[AM (show r<=Q-1 by omega)];go_upto_region 14 with fail;refine AV ?_;refine AZ rfl 39 _ rfl M 0 rfl _ _ o.range underlying39 rfl OQ ?_;simp only[PS];go_wp2_with fail;refine(O.j _ _ _).J ?_;rintro e vb ⟨rfl,b⟩;replace f:=f.I b;replace o:=o.I b;replace d:=d.I b;clear b O;have fU:v7.heap.size<=vb.heap.size:=d.top
  by_cases h6:Q<=U
  case pos =>
   have eY:Q-U=0:=ω
   have p:=bC.j ω ω;have b:D=OH n j.length (L+1) T H F m:=aZ.j ω ω ω;have l:=Y (λG I s V k2=>pF n j.length (L+1) T H F R U 0 G m I s V k2 ω dZ.j p);rw[<-b]at l;unfold MI at l;clear b p;go_upto_region 15 with fail;refine AV ?_;refine AZ rfl 39 _ rfl M 0 rfl _ _ o.range underlying39 rfl OQ ?_;simp only[PS];go_wp2_with fail;refine(l.j _ _ _ d.q.prs cC).J ?_;rintro e vc ⟨p,B,t,W,rfl,cY,eT,cF,V,b⟩;have lb:=b.size;replace f:=f.I b;replace d:=d.I b;clear b l;unfold MD
   obtain⟨aT,own,g1⟩:D.rs.length<=B/\OwnDn vc D.rs D.ops p t/\(∀g,blk p D.rs.length=some g->v6.heap.size<=g):=by
    rcases eT with ⟨rfl,rfl,O⟩|O
    ·rw[O]
     exact⟨cC,⟨d.q,cF,ZO eH (λg k=>by have:=V g k;omega)⟩,cV⟩
    rw[O]
    exact⟨AL _,⟨.inl rfl,cF,.inl rfl⟩,λg k=>by cases k⟩
   have O:=l6
   try simp only[PS]
   refine‹∀(a:Act) (w:xV),wpList _ _ _ _ a w->_› _ _ ?_
   refine BU rfl 102 _ _ rfl (w.heap.size+1) 0 (dK D.C D.W D.S D.L D.T D.H D.F D.R D.U D.O (yI p D.rs.length B) (yI t D.ops.length W)) rfl rfl (f.r2.there rfl) RQ κ ?_
   try simp only[PS]
   obtain⟨b,y⟩:=f.fin D p B t W aT own (λg k=>by have:=g1 g k;omega) (λg k=>by have:=V g k;omega);have l:=Y y;clear y;generalize C:World.setCells _ _ _ _=y at b l⊢;clear C f
   try go_wp2
   refine UZ 4 results117 _ ?_ b ?_ l.j cY<;>rfl
  have p:¬Q-U=0:=ω
  have eX:(Q-U == 0)=false:=by simp[p]
  have l:=Y (λG I s=>Ms n j.length (L+1) T H F R U 0 G m I s hH hF ω);have b:=bB.j ω ω ω;rw[eL.j]at l;rw[<-b]at l;have O:D.rs=m:=by rw[b]
  unfold MI at l;clear b p;go_upto_region 16 with fail;refine AV ?_;refine AZ rfl 39 _ rfl M 0 rfl _ _ o.range underlying39 rfl OQ ?_;simp only[PS];go_wp2_with fail;refine(l.j _ _ _).J ?_;rintro e vc ⟨t,W,rfl,cY,cF,V,b⟩;have lb:=b.size;replace f:=f.I b;replace d:=d.I b;clear b l;unfold MD;obtain⟨p,rfl⟩:∃x,x=a6:=⟨_,rfl⟩;obtain⟨B,rfl⟩:∃x,x=c6:=⟨_,rfl⟩
  obtain⟨aT,own,g1⟩:D.rs.length<=B/\OwnDn vc D.rs D.ops p t/\(∀g,blk p D.rs.length=some g->v6.heap.size<=g):=by
   rw[O];exact⟨cC,⟨d.q,cF,ZO eH (λg k=>by have:=V g k;omega)⟩,cV⟩
  try simp only[PS]
  refine‹∀(a:Act) (w:xV),wpList _ _ _ _ a w->_› _ _ ?_
  refine BU rfl 102 _ _ rfl (w.heap.size+1) 0 (dK D.C D.W D.S D.L D.T D.H D.F D.R D.U D.O (yI p D.rs.length B) (yI t D.ops.length W)) rfl rfl (f.r2.there rfl) RQ κ ?_
  try simp only[PS]
  obtain⟨b,y⟩:=f.fin D p B t W aT own (λg k=>by have:=g1 g k;omega) (λg k=>by have:=V g k;omega);have l:=Y y;clear y;generalize C:World.setCells _ _ _ _=y at b l⊢;clear C f
  try go_wp2
  refine UZ 4 results117 _ ?_ b ?_ l.j cY<;>rfl
