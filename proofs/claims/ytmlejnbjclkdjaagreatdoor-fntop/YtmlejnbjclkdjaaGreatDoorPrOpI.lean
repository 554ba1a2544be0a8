import Derived.Test.YtmlejnbjclkdjaaGreatDoorPrOpS
import Derived.Test.YtmlejnbjclkdjaaGreatDoorPrG40
import Derived.Test.YtmlejnbjclkdjaaGreatDoorPrG37
set_option maxHeartbeats 16000000
namespace Go.Proofs.YtmlejnbjclkdjaaGreatDoor
open Tryz
open Go.RowKit
set_option linter.all false
set_option maxRecDepth 8000
def yD(v d:Nb)(c:List Y)(U L:Int)(f:Nc):Prop:=∃(a:Nat) (b:M6) (e:Nat),f=Mv a 0/\Row d a [.slice b c.length e,.int .i64 U,.int .i64 L]/\v.heap.size<=a/\OwnS d b (c.map Value.string)/\(∀g,blk b c.length=some g->v.heap.size<=g)/\Below v.heap.size v d
theorem pO(a:M6)(j:List Y)(c:Nat)(K:M6)(z:List (Int×Y))(S:Nat)(n:Int)(w:Nb)(h:Strs w a j)(h':Wrs w K z)(hl:j.length<=1048576)(cW:z.length<=1048576)(hs:∀s∈j,s.size<=1048576)(dL:∀x∈z,x.2.size<=1048576)
  (ty:TypeId)(v:Nc)(cI:w.cell? ⟨1,0,none⟩=some (.iface ty v))(cC:w.cell? ⟨0,0,none⟩=some (.iface 200 (.agg #[Mv 3 91])))(eV:1<w.heap.size):Calls prog 48 #[LF a j.length c K z.length S,.int .i64 n] w λx p=>ee w p x (OP j z n):=by
 have e:=Z (λ(s:Nb) V k2=>NF a j c K z S s V k2 hl cW hs dL);obtain⟨D,d⟩:∃D,Hid (D=OP j z n):=⟨_,Z rfl⟩;rw[<-d.l];unfold LF;go_enter func48,ntmps48;go_upto_region 1 with fail;generalize b:w.alloc _=v1;obtain⟨g,l,k⟩:=LY b;clear b;generalize f:v1.alloc _=v2;obtain⟨i,m,b⟩:=LY f;clear f;rw[l]at b;have f:StB w v2 [.slice a j.length c,.slice K z.length S] (λ_=>True):=⟨g.j (i.z g.size),(k.I i).q,b.q,LQ (λ_=>trivial)⟩;have r:w.heap.size+1<v2.heap.size:=b.q.lt;clear g i k b l m;have l:=f.r1.y 0;have g:=f.r1.y 1;have o:=f.r1.lt;unfold LF at e;go_wp2_with fail;clear l g o;refine(e.l _ (h.I f.e) (h'.I f.e)).z ?_;rintro x v3 ⟨rfl,b⟩;replace f:=f.I b;clear b r e
 cases hok:LE j z with
 | false =>
  obtain rfl:D=LX 1:=d.l.j (gh (λk=>by rw[hok]at k;exact absurd k.1 σ));clear cI cC;go_upto_region 2 with fail;refine f.noR 1 _ _ rfl γ rfl rfl rfl rfl (λy b l=>?_)
  try simp only[PS]
  clear f
  try go_wp2
  refine VO 4 results48 _ ?_ b ?_ l.l<;>rfl
 | true =>
 by_cases hn:1<=n/\n<=8
 case neg =>
  have hd:=AI hn;obtain rfl:D=LX 1:=d.l.j (gh (λk=>hn k.2));clear cI cC;go_upto_region 2 with (go_at_call 53;refine(SZ _ _).z ?_;rw[hd];refine OJ ?_);refine f.noR 1 _ _ rfl γ rfl rfl rfl rfl (λy b l=>?_)
  try simp only[PS]
  clear f
  try go_wp2
  refine VO 4 results48 _ ?_ b ?_ l.l<;>rfl
 have l:=AH hok hn;have hd:=AL hn;have hg:=br l;have dN:=mh l;obtain⟨⟨fF,fG,fH⟩,_,_⟩:=LK l.1;have hQ:=QM (S:=(j.length:Int)) ω;obtain⟨T,H,F,R,m⟩:∃T H F R,NJ j z n=(T,H,F,R):=⟨_,_,_,_,rfl⟩;obtain⟨A,U,L,o⟩:∃A U L,PB j z n=(A,U,L):=⟨_,_,_,rfl⟩;have r:TQ j z (2+H*hv j.length) (hv j.length) F R n=(A,U,L):=by rw[<-o];unfold PB;rw[m]
 rw[m]at hg;rw[o]at dN;unfold WL at hg;simp only at hg dN;obtain⟨i,hH,hF,hR⟩:=hg;obtain⟨hU,hL,fE,b⟩:=dN;have eO:=Z b;clear b;have eC:=Z (λs (b:Below w.heap.size w s)=>((b.cell (p:=⟨1,0,none⟩) eV).j cI));have eB:=Z (λs (b:Below w.heap.size w s)=>((b.cell (p:=⟨0,0,none⟩) (by show 0<_;omega)).j cC));have cA:=Z (λs V k2 (b:Below w.heap.size w s)=>J9 a j c K z S n s V k2 hl cW hs dL ty v (eC.l _ b) (eB.l _ b) (by have:=b.size;omega));rw[m]at cA;simp only[YT]at cA;have g:=na hH (q:=hv j.length) ω;have aO:=Z (λs V k2 (b:Below w.heap.size w s)=>(xU a j c K z S (2+H*hv j.length) (hv j.length) F R n s V k2 hl cW hs dL ω ω ty v (eC.l _ b) (eB.l _ b) (by have:=b.size;omega)).z (λe t q=>qI q));rw[r]at aO;simp only[vh]at aO;have HH:=Z (λs=>dz (j.length:Int) s);have HB:=Z (λs=>wQ (j.length:Int) H hH.1 hH.2 s)
 have dZ:=Z (λJ X s V=>Ld J A X s V ω (λe q=>by have:=eO.l e q;omega));unfold oh MH at dZ;clear g cI cC;have aH:=Z l;have q:=Z m;have g:=Z o;clear l m o r
 have eM:Hid (NX A []=none->D=LX 2):=λu=>d.l.j (vu aH.l g.l u)
 have eN:Hid (∀m,NX A []=some m->60000<L+1->D=LX 3):=λm u h4=>d.l.j (xu aH.l g.l u h4)
 have dU:Hid (∀m,NX A []=some m->¬60000<L+1->hv j.length-1<MJ (MD m) n->D=LX 4):=λm u h4 h5=>d.l.j (tp aH.l g.l u h4 h5)
 have dV:Hid (∀m,NX A []=some m->¬60000<L+1->¬hv j.length-1<MJ (MD m) n->hv j.length<=U->D=PM n j.length (L+1) T H F m):=λm u h4 h5 h6=>d.l.j (jw aH.l q.l g.l u h4 h5 h6)
 have cL:Hid (∀m,NX A []=some m->¬60000<L+1->¬hv j.length-1<MJ (MD m) n->¬hv j.length<=U->D=⟨0,n,j.length,L+1,T,H,F,R,U+1,0,m,[(false,2+H*hv j.length+U,MM 3 (L+1) (F+U) ByteArray.empty n),(true,0,ByteArray.empty)]⟩):=λm u h4 h5 h6=>d.l.j (kf aH.l q.l g.l u h4 h5 h6)
 have eF:Hid (∀m,¬60000<L+1->¬hv j.length-1<MJ (MD m) n->XI n j.length (L+1) T H F m):=λm h4 h5=>⟨aH.l.2,ω,ω,i,hH,hF,ω⟩
 clear q g d;obtain⟨Q,HQ⟩:∃Q,Hid (Q=hv j.length):=⟨_,Z rfl⟩;obtain⟨q,d⟩:∃q,q=2+H*Q:=⟨_,rfl⟩;rw[<-HQ.l]at hQ hU aO HH HB dU dV cL eF;rw[<-d]at aO HB cL;have fI:2<=q/\q<=101:=by have:=na hH (q:=Q) ω;omega
 have eP:Hid (2+H*hv j.length=q):=by show _=_;rw[d,HQ.l]
 clear d;have fS:IntKind.i64.wrap (Q-1)=Q-1:=XH _ ω ω;have fQ:IntKind.i64.wrap (L+1)=L+1:=XH _ ω ω;have fT:IntKind.i64.wrap (U+1)=U+1:=XH _ ω ω;have fO:IntKind.i64.wrap (F+U)=F+U:=XH _ ω ω;have fU:IntKind.i64.wrap (q+U)=q+U:=XH _ ω ω;have l:=f.r1.y 0;have g:=f.r1.y 1;have o:=f.r1.lt;unfold LF at cA aO;go_wp2_with (go_at_call 53;refine(SZ _ _).z ?_;rw[hd];refine OJ ?_);clear l g o;refine(cA.l _ (h.I f.e) (h'.I f.e) f.e).z ?_;rintro x v4 ⟨rfl,b⟩;replace f:=f.I b;clear b;go_upto_region 5 with fail;generalize g:v4.alloc _=t;obtain⟨b,o,d⟩:=LY g;clear g;obtain⟨BR,l⟩:∃k,k=v4.heap.size:=⟨_,rfl⟩;rw[<-l]at d⊢;have B:=d.q;replace f:=f.I b;clear b d o l;go_cut [7] from 26 to 38 (λv7 s=>yD t s A U L v7)
 case first =>
  have dD:=(AB t.heap.size t).drew;refine VS (14) (S:=λp=>Row p w.heap.size [.slice a j.length c,.slice K z.length S]/\Row p BR [.int .i64 T,.int .i64 H,.int .i64 F,.int .i64 R]) κ (⟨f.r1.I dD,B.I dD⟩) (λM=>?_);refine OZ 0 (.agg #[.slice a j.length c,.slice K z.length S]) rfl (BO ⟨ρ,λw b=>by obtain⟨z0,O⟩:=b;have c:=z0.y 0;have d:=z0.y 1;have l:=z0.lt;go_simp⟩) M (NN 1 (.int .i64 (j.length:Int)) rfl M (OZ 2 (Mv BR 1) rfl (BO ⟨ρ,λw b=>by obtain⟨z0,O⟩:=b;have l:=O.lt;go_simp⟩) M (OZ 3 (.int .i64 H) rfl (BO ⟨ρ,λw b=>by obtain⟨z0,O⟩:=b;have c:=O.y 1;go_simp⟩) M (NN 5 (.int .i64 (j.length:Int)) rfl M (OZ 7 (Mv BR 2) rfl (BO ⟨ρ,λw b=>by obtain⟨z0,O⟩:=b;have l:=O.lt;go_simp⟩) M (OZ 8 (.int .i64 F) rfl (BO ⟨ρ,λw b=>by obtain⟨z0,O⟩:=b;have c:=O.y 2;go_simp⟩) M (OZ 9 (Mv BR 3) rfl (BO ⟨ρ,λw b=>by obtain⟨z0,O⟩:=b;have l:=O.lt;go_simp⟩) M (OZ 10 (.int .i64 R) rfl (BO ⟨ρ,λw b=>by obtain⟨z0,O⟩:=b;have c:=O.y 3;go_simp⟩) M (NN 11 (.int .i64 n) rfl M ?_)))))))))
  simp only[PS];refine RT (rs:=[4,13]) κ σ ?_;refine AllReadyT.cons rfl (λI o=>?_) (AllReadyT.cons rfl (λI o=>?_) AllReadyT.nil)
  focus
   refine LW ρ 97 #[.int .i64 (j.length:Int),.int .i64 H] γ (HB.l _) ?_;rintro e r ⟨rfl,b⟩;refine⟨_,rfl,?_⟩;rw[b];clear b r;refine o.l _ _ M (λ_=>?_)
   try simp only[PS]
   refine RT (rs:=[6,13]) κ σ ?_;refine AllReadyT.cons rfl (λI o=>?_) (AllReadyT.cons rfl (λI o=>?_) AllReadyT.nil)
   focus
    refine LW ρ 98 #[.int .i64 (j.length:Int)] γ (HH.l _) ?_;rintro e r ⟨rfl,b⟩;refine⟨_,rfl,?_⟩;rw[b];clear b r;refine o.l _ _ M (λ_=>?_)
    try simp only[PS]
    refine RT (rs:=[12,13]) κ σ ?_;refine AllReadyT.cons rfl (λI o=>?_) (AllReadyT.cons rfl (λI o=>?_) AllReadyT.nil)
    focus
     obtain⟨W,b⟩:∃y,y=t.drew:=⟨_,rfl⟩;rw[<-b];have i:Below t.heap.size t W:=by rw[b];exact(AB _ _).drew
     clear b;have r:=f.e.j (i.z f.e.size);refine LW ρ 96 #[.agg #[.slice a j.length c,.slice K z.length S],.int .i64 q,.int .i64 Q,.int .i64 F,.int .i64 R,.int .i64 n] γ (aO.l _ (h.I r) (h'.I r) r) ?_;rintro e aQ ⟨J,X,rfl,E,N,b⟩;refine⟨_,rfl,?_⟩;have dX:=LS (lo:=W.heap.size) E ai N
     have cF:∀g,blk J A.length=some g->t.heap.size<=g:=λg k=>AK i.size (N g k)
     replace i:=i.j (b.z i.size);clear b E r;refine o.l _ _ (⟨f.r1.I i,B.I i⟩) (λeT=>?_)
     try simp only[PS]
     refine PH 13 rfl (λI o=>?_);go_simp;generalize C:World.alloc _ _=aU;obtain⟨b,G,E⟩:=LY C;obtain⟨P,r⟩:∃k,k=aQ.heap.size:=⟨_,rfl⟩;rw[<-r]at E⊢;have bU:t.heap.size<=P:=by rw[r];exact i.size
     have p:=E.q;have tX:aQ.heap.size<=P:=by rw[r];exact AA _
     replace dX:=dX.I b;replace i:=i.j (b.z i.size);clear b E G r C;refine o.l _ _ (⟨f.r1.I i,B.I i⟩) (λcN=>?_)
     try simp only[PS]
     obtain⟨yz,rfl⟩:∃y,y=aU:=⟨_,rfl⟩;have cS:=cN
    rotate_left
    focus
     obtain⟨W,b⟩:∃y,y=t.drew:=⟨_,rfl⟩;rw[<-b];have i:Below t.heap.size t W:=by rw[b];exact(AB _ _).drew
     clear b;go_simp;generalize C:World.alloc _ _=aU;obtain⟨b,G,E⟩:=LY C;obtain⟨P,r⟩:∃k,k=W.heap.size:=⟨_,rfl⟩;rw[<-r]at E⊢;have bU:t.heap.size<=P:=by rw[r];exact i.size
     have p:=E.q;replace i:=i.j (b.z i.size);clear b E G r C;refine o.l _ _ (⟨f.r1.I i,B.I i⟩) (λeU=>?_)
     try simp only[PS]
     refine PH 12 rfl (λI o=>?_);have r:=f.e.j (i.z f.e.size);refine LW ρ 96 #[.agg #[.slice a j.length c,.slice K z.length S],.int .i64 q,.int .i64 Q,.int .i64 F,.int .i64 R,.int .i64 n] γ (aO.l _ (h.I r) (h'.I r) r) ?_;rintro e aQ ⟨J,X,rfl,E,N,b⟩;refine⟨_,rfl,?_⟩;have dX:=LS (lo:=aU.heap.size) E ai N
     have cF:∀g,blk J A.length=some g->t.heap.size<=g:=λg k=>AK i.size (N g k)
     have lX:=p.lt;replace p:=p.I b;replace i:=i.j (b.z i.size);clear b E r;refine o.l _ _ (⟨f.r1.I i,B.I i⟩) (λcO=>?_)
     try simp only[PS]
     obtain⟨yz,rfl⟩:∃y,y=aQ:=⟨_,rfl⟩;have cS:=cO
   rotate_left 2
   focus
    obtain⟨W,b⟩:∃y,y=t.drew:=⟨_,rfl⟩;rw[<-b];have i:Below t.heap.size t W:=by rw[b];exact(AB _ _).drew
    clear b;go_simp;generalize C:World.alloc _ _=aU;obtain⟨b,G,E⟩:=LY C;obtain⟨P,r⟩:∃k,k=W.heap.size:=⟨_,rfl⟩;rw[<-r]at E⊢;have bU:t.heap.size<=P:=by rw[r];exact i.size
    have p:=E.q;replace i:=i.j (b.z i.size);clear b E G r C;refine o.l _ _ (⟨f.r1.I i,B.I i⟩) (λcP=>?_)
    try simp only[PS]
    refine PH 6 rfl (λI o=>?_);refine LW ρ 98 #[.int .i64 (j.length:Int)] γ (HH.l _) ?_;rintro e r ⟨rfl,b⟩;refine⟨_,rfl,?_⟩;rw[b];clear b r;refine o.l _ _ cP (λ_=>?_)
    try simp only[PS]
    refine PH 12 rfl (λI o=>?_);have r:=f.e.j (i.z f.e.size);refine LW ρ 96 #[.agg #[.slice a j.length c,.slice K z.length S],.int .i64 q,.int .i64 Q,.int .i64 F,.int .i64 R,.int .i64 n] γ (aO.l _ (h.I r) (h'.I r) r) ?_;rintro e aQ ⟨J,X,rfl,E,N,b⟩;refine⟨_,rfl,?_⟩;have dX:=LS (lo:=aU.heap.size) E ai N
    have cF:∀g,blk J A.length=some g->t.heap.size<=g:=λg k=>AK i.size (N g k)
    have lX:=p.lt;replace p:=p.I b;replace i:=i.j (b.z i.size);clear b E r;refine o.l _ _ (⟨f.r1.I i,B.I i⟩) (λcQ=>?_)
    try simp only[PS]
    obtain⟨yz,rfl⟩:∃y,y=aQ:=⟨_,rfl⟩;have cS:=cQ
  rotate_left 3
  focus
   obtain⟨W,b⟩:∃y,y=t.drew:=⟨_,rfl⟩;rw[<-b];have i:Below t.heap.size t W:=by rw[b];exact(AB _ _).drew
   clear b;go_simp;generalize C:World.alloc _ _=aU;obtain⟨b,G,E⟩:=LY C;obtain⟨P,r⟩:∃k,k=W.heap.size:=⟨_,rfl⟩;rw[<-r]at E⊢;have bU:t.heap.size<=P:=by rw[r];exact i.size
   have p:=E.q;replace i:=i.j (b.z i.size);clear b E G r C;refine o.l _ _ (⟨f.r1.I i,B.I i⟩) (λC=>?_)
   try simp only[PS]
   refine PH 4 rfl (λI o=>?_);refine LW ρ 97 #[.int .i64 (j.length:Int),.int .i64 H] γ (HB.l _) ?_;rintro e r ⟨rfl,b⟩;refine⟨_,rfl,?_⟩;rw[b];clear b r;refine o.l _ _ C (λ_=>?_)
   try simp only[PS]
   refine PH 6 rfl (λI o=>?_);refine LW ρ 98 #[.int .i64 (j.length:Int)] γ (HH.l _) ?_;rintro e r ⟨rfl,b⟩;refine⟨_,rfl,?_⟩;rw[b];clear b r;refine o.l _ _ C (λ_=>?_)
   try simp only[PS]
   refine PH 12 rfl (λI o=>?_);have r:=f.e.j (i.z f.e.size);refine LW ρ 96 #[.agg #[.slice a j.length c,.slice K z.length S],.int .i64 q,.int .i64 Q,.int .i64 F,.int .i64 R,.int .i64 n] γ (aO.l _ (h.I r) (h'.I r) r) ?_;rintro e aQ ⟨J,X,rfl,E,N,b⟩;refine⟨_,rfl,?_⟩;have dX:=LS (lo:=aU.heap.size) E ai N
   have cF:∀g,blk J A.length=some g->t.heap.size<=g:=λg k=>AK i.size (N g k)
   have lX:=p.lt;replace p:=p.I b;replace i:=i.j (b.z i.size);clear b E r;refine o.l _ _ (⟨f.r1.I i,B.I i⟩) (λbW=>?_)
   try simp only[PS]
   obtain⟨yz,rfl⟩:∃y,y=aQ:=⟨_,rfl⟩;have cS:=bW
  all_goals
   refine RT (rs:=[14]) κ σ ?_;refine AllReadyT.last rfl (λI o=>?_);obtain⟨l0,l1,r⟩:=p.k3;obtain⟨b,E,G⟩:=p.z3;have ll:=p.lt;go_simp;clear l0 l1 r b E G ll;refine o.l _ _ trivial (λ_=>?_)
   try simp only[PS]
   refine UY κ ?_ _;have G:=QC (QC (QC (BY yz (some P)) 0 (.slice J A.length X)) 1 (.int .i64 U)) 2 (.int .i64 L);have E:=((p.set 0 σ (.slice J A.length X)).set 1 σ (.int .i64 U)).set 2 σ (.int .i64 L)
   have b:=dX.J G (λg e=>by cases e;first|(left;omega)|(right;omega))
   have r:=i.j (NR G i.size (λx e=>by have e:=CE e;omega));generalize cM:World.setCell (World.setCell (World.setCell _ _ _) _ _) _ _=yC at E b r⊢;clear cM G;go_wp2_with fail;go_meet;exact⟨P,J,X,rfl,E,bU,b.q,cF,r⟩
 case rest =>
 obtain⟨P,J,X,rfl,p,bU,E,N,b⟩:=hcut
 rename World=>v6
 replace f:=f.I b;replace B:=B.I b;clear b;have l:=p.y 0;have o:=p.lt;go_wp2_with fail;clear l o;have o:=Z (dZ.l _ X _ E.strs)
 cases u:NX A [] with
 | none =>
  obtain rfl:D=LX 2:=eM.l u;rw[u]at o;simp only[JP,JC,AR]at o;clear u;refine(o.l).z ?_;rintro e v7 ⟨a6,c6,rfl,_,_,_,b⟩;replace f:=f.I b;clear b;go_upto_region 7 with fail;generalize l:v7.alloc _=v8;obtain⟨b,M,y⟩:=LY l;clear l M y;replace f:=f.I b;clear b;go_upto_region 8 with fail;refine f.noR 2 _ _ rfl γ rfl rfl rfl rfl (λy b l=>?_)
  try simp only[PS]
  clear f
  try go_wp2
  refine VO 4 results48 _ ?_ b ?_ l.l<;>rfl
 | some m =>
  rw[u]at o;simp only[GZ,JD]at o;have d:=dx A [] UG m u;have b:=VC d;have eG:=Z b.2;have fJ:=b.1;have cJ:=Z (eN.l m u);have aY:=Z (dU.l m u);have aZ:=Z (dV.l m u);have bC:=Z (cL.l m u);have bE:=Z (eF.l m);have C:=Z (λG I s V k2=>sj n j.length (L+1) T H F R U 0 G m I s V k2 ω eG.l);have O:=Z (λG I s=>uJ n j.length (L+1) T H F R U 0 G m.length I s ω ω);unfold NK at C O;rw[<-HQ.l]at C O;obtain⟨r,eQ⟩:∃r,Hid (r=MJ (MD m) n):=⟨_,Z rfl⟩;rw[<-eQ.l]at C aY aZ bC bE;clear u b d;refine(o.l).z ?_;rintro e v7 ⟨a6,c6,rfl,cE,l,cV,b⟩;have d:=LS (lo:=v6.heap.size) l SM cV
  have eL:∀g,blk a6 m.length=some g->g<v7.heap.size:=λg k=>ZK l k
  have l6:=f.r2.lt;have fW:v6.heap.size<=v7.heap.size:=b.size;replace f:=f.I b;replace p:=p.I b;replace B:=B.I b;clear b l o;go_upto_region 7 with fail;generalize l:v7.alloc _=v8;obtain⟨b,M,y⟩:=LY l;clear l;obtain⟨B8,l⟩:∃k,k=v7.heap.size:=⟨_,rfl⟩;rw[<-l]at y⊢;have u:=y.q;replace f:=f.I b;replace p:=p.I b;replace B:=B.I b;replace d:=d.I b;clear b y M l;have x1:=p.y 1;have x2:=p.y 2;have xl:=p.lt;obtain⟨o,y,M,W⟩:=B.k4;have tl:=B.lt;have b:=u.y 0;have l:=u.lt;go_upto_region 10 with fail;clear x1 x2 xl o y M W tl b l;generalize o:v8.alloc _=v9;obtain⟨b,W,l⟩:=LY o;clear o;obtain⟨M,y⟩:∃k,k=v8.heap.size:=⟨_,rfl⟩;rw[<-y]at l⊢;have o:Row v9 M (sJ n (j.length:Int) (L+1) T H F R U 0 (.slice a6 m.length c6)):=l.q;replace f:=f.I b;replace d:=d.I b;clear b l W p B u y;have u:=o.y 2
  have p:=o.lt
  by_cases h4:60000<L+1
  case pos =>
   obtain rfl:D=LX 3:=cJ.l ω;go_upto_region 11 with fail;refine f.noR 3 _ _ rfl γ rfl rfl rfl rfl (λy b l=>?_)
   try simp only[PS]
   clear f
   try go_wp2
   refine VO 4 results48 _ ?_ b ?_ l.l<;>rfl
  have fA:L+1<=60000:=ω
  go_upto_region 12 with fail;clear u p;refine BE ?_;refine AS rfl 33 _ rfl M 0 rfl _ _ o.range underlying33 rfl QI ?_;simp only[PS];go_wp2_with fail;refine(C.l _ _ _ d.q.prs cE).z ?_;rintro e va ⟨rfl,b⟩;replace f:=f.I b;replace o:=o.I b;replace d:=d.I b;clear b C
  by_cases h5:Q-1<r
  case pos =>
   obtain rfl:D=LX 4:=aY.l ω ω;rw[AI (show ¬r<=Q-1 by omega)];go_upto_region 13 with fail;refine f.noR 4 _ _ rfl γ rfl rfl rfl rfl (λy b l=>?_)
   try simp only[PS]
   clear f
   try go_wp2
   refine VO 4 results48 _ ?_ b ?_ l.l<;>rfl
  rw[AL (show r<=Q-1 by omega)];go_upto_region 14 with fail;refine BE ?_;refine AS rfl 33 _ rfl M 0 rfl _ _ o.range underlying33 rfl QI ?_;simp only[PS];go_wp2_with fail;refine(O.l _ _ _).z ?_;rintro e vb ⟨rfl,b⟩;replace f:=f.I b;replace o:=o.I b;replace d:=d.I b;clear b O;have fX:v7.heap.size<=vb.heap.size:=d.top
  by_cases h6:Q<=U
  case pos =>
   have fC:Q-U=0:=ω
   have p:=bE.l ω ω;have b:D=PM n j.length (L+1) T H F m:=aZ.l ω ω ω;have l:=Z (λG I s V k2=>WO n j.length (L+1) T H F R U 0 G m I s V k2 ω eG.l p);rw[<-b]at l;unfold NK at l;clear b p;go_upto_region 15 with fail;refine BE ?_;refine AS rfl 33 _ rfl M 0 rfl _ _ o.range underlying33 rfl QI ?_;simp only[PS];go_wp2_with fail;refine(l.l _ _ _ d.q.prs cE).z ?_;rintro e vc ⟨p,B,u,W,rfl,dH,eY,cH,V,b⟩;have lb:=b.size;replace f:=f.I b;replace d:=d.I b;clear b l;unfold NZ
   obtain⟨aT,own,g1⟩:D.rs.length<=B/\OwnDn vc D.rs D.ops p u/\(∀g,blk p D.rs.length=some g->v6.heap.size<=g):=by
    rcases eY with ⟨rfl,rfl,O⟩|O
    ·rw[O]
     exact⟨cE,⟨d.q,cH,ZJ eL (λg k=>by have:=V g k;omega)⟩,cV⟩
    rw[O]
    exact⟨AM _,⟨.inl rfl,cH,.inl rfl⟩,λg k=>by cases k⟩
   have O:=l6
   try simp only[PS]
   refine‹∀(a:Act) (w:Nb),wpList _ _ _ _ a w->_› _ _ ?_
   refine BI rfl 99 _ _ rfl (w.heap.size+1) 0 (dK D.C D.W D.S D.L D.T D.H D.F D.R D.U D.O (.slice p D.rs.length B) (.slice u D.ops.length W)) rfl rfl (f.r2.there rfl) UB κ ?_
   try simp only[PS]
   obtain⟨b,y⟩:=f.fin D p B u W aT own (λg k=>by have:=g1 g k;omega) (λg k=>by have:=V g k;omega);have l:=Z y;clear y;generalize C:World.setCells _ _ _ _=y at b l⊢;clear C f
   try go_wp2
   refine VO 4 results48 _ ?_ b ?_ l.l dH<;>rfl
  have p:¬Q-U=0:=ω
  have fB:(Q-U == 0)=false:=by simp[p]
  have l:=Z (λG I s=>Kg n j.length (L+1) T H F R U 0 G m I s hH hF ω);have b:=bC.l ω ω ω;rw[eP.l]at l;rw[<-b]at l;have O:D.rs=m:=by rw[b]
  unfold NK at l;clear b p;go_upto_region 16 with fail;refine BE ?_;refine AS rfl 33 _ rfl M 0 rfl _ _ o.range underlying33 rfl QI ?_;simp only[PS];go_wp2_with fail;refine(l.l _ _ _).z ?_;rintro e vc ⟨u,W,rfl,dH,cH,V,b⟩;have lb:=b.size;replace f:=f.I b;replace d:=d.I b;clear b l;unfold NZ;obtain⟨p,rfl⟩:∃x,x=a6:=⟨_,rfl⟩;obtain⟨B,rfl⟩:∃x,x=c6:=⟨_,rfl⟩
  obtain⟨aT,own,g1⟩:D.rs.length<=B/\OwnDn vc D.rs D.ops p u/\(∀g,blk p D.rs.length=some g->v6.heap.size<=g):=by
   rw[O];exact⟨cE,⟨d.q,cH,ZJ eL (λg k=>by have:=V g k;omega)⟩,cV⟩
  try simp only[PS]
  refine‹∀(a:Act) (w:Nb),wpList _ _ _ _ a w->_› _ _ ?_
  refine BI rfl 99 _ _ rfl (w.heap.size+1) 0 (dK D.C D.W D.S D.L D.T D.H D.F D.R D.U D.O (.slice p D.rs.length B) (.slice u D.ops.length W)) rfl rfl (f.r2.there rfl) UB κ ?_
  try simp only[PS]
  obtain⟨b,y⟩:=f.fin D p B u W aT own (λg k=>by have:=g1 g k;omega) (λg k=>by have:=V g k;omega);have l:=Z y;clear y;generalize C:World.setCells _ _ _ _=y at b l⊢;clear C f
  try go_wp2
  refine VO 4 results48 _ ?_ b ?_ l.l dH<;>rfl
