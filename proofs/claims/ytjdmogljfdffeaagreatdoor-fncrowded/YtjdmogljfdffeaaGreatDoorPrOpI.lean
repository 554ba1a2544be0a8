import Derived.Test.YtjdmogljfdffeaaGreatDoorPrOpS
import Derived.Test.YtjdmogljfdffeaaGreatDoorPrG45
import Derived.Test.YtjdmogljfdffeaaGreatDoorPrG28
set_option maxHeartbeats 16000000
namespace Go.Proofs.YtjdmogljfdffeaaGreatDoor
open Tryz
open Go.RowKit
set_option linter.all false
set_option maxRecDepth 8000
def xE(v d:World)(c:List ByteArray)(U L:Int)(f:Value):Prop:=∃(a:Nat) (b:Option Addr) (e:Nat),f=.pointer (some ⟨a,0,none⟩)/\Row d a [.slice b c.length e,.int .i64 U,.int .i64 L]/\v.heap.size<=a/\OwnS d b (c.map Value.string)/\(∀g,blk b c.length=some g->v.heap.size<=g)/\Below v.heap.size v d
theorem Cf(a:Option Addr)(j:List ByteArray)(c:Nat)(M:Option Addr)(z:List (Int×ByteArray))(W:Nat)(n:Int)(w:World)(h:Strs w a j)(h':Wrs w M z)(hl:j.length<=1048576)(dN:z.length<=1048576)(hs:∀s∈j,s.size<=1048576)(dU:∀x∈z,x.2.size<=1048576)
  (ty:TypeId)(v:Value)(cP:w.cell? ⟨1,0,none⟩=some (.iface ty v))(cI:w.cell? ⟨0,0,none⟩=some (.iface 263 (.agg #[.pointer (some ⟨3,125,none⟩)])))(fC:1<w.heap.size):Calls prog 55 #[LE a j.length c M z.length W,.int .i64 n] w λx p=>ex w p x (OM j z n):=by
 have e:=Z (λ(s:World) X k2=>WD a j c M z W s X k2 hl dN hs dU);obtain⟨D,d⟩:∃D,Hid (D=OM j z n):=⟨_,Z rfl⟩;rw[<-d.l];unfold LE;go_enter func55,ntmps55;go_upto_region 1 with fail;generalize b:w.alloc _=v1;obtain⟨g,l,k⟩:=LF b;clear b;generalize f:v1.alloc _=v2;obtain⟨i,m,b⟩:=LF f;clear f;rw[l]at b;have f:StB w v2 [.slice a j.length c,.slice M z.length W] (λ_=>True):=⟨g.j (i.A g.size),(k.z i).q,b.q,SK (λ_=>trivial)⟩;have r:w.heap.size+1<v2.heap.size:=b.q.lt;clear g i k b l m;have l:=f.r1.y 0;have g:=f.r1.y 1;have o:=f.r1.lt;unfold LE at e;go_wp2_with fail;clear l g o;refine(e.l _ (h.z f.e) (h'.z f.e)).A ?_;rintro x v3 ⟨rfl,b⟩;replace f:=f.z b;clear b r e
 cases hok:LG j z with
 | false =>
  obtain rfl:D=LD 1:=d.l.j (gw (λk=>by rw[hok]at k;exact absurd k.1 σ));clear cP cI;go_upto_region 2 with fail;refine f.noR 1 _ _ rfl γ rfl rfl rfl rfl (λy b l=>?_)
  try simp only[J]
  clear f
  try go_wp2
  refine VE 4 results55 _ ?_ b ?_ l.l<;>rfl
 | true =>
 by_cases hn:1<=n/\n<=8
 case neg =>
  have hd:=AJ hn;obtain rfl:D=LD 1:=d.l.j (gw (λk=>hn k.2));clear cP cI;go_upto_region 2 with (go_at_call 45;refine(RX _ _).A ?_;rw[hd];refine NC ?_);refine f.noR 1 _ _ rfl γ rfl rfl rfl rfl (λy b l=>?_)
  try simp only[J]
  clear f
  try go_wp2
  refine VE 4 results55 _ ?_ b ?_ l.l<;>rfl
 have l:=AH hok hn;have hd:=AM hn;have hg:=fo l;have dZ:=my l;obtain⟨⟨fQ,fS,fT⟩,_,_⟩:=PA l.1;have hQ:=PJ (S:=(j.length:Int)) ω;obtain⟨T,H,F,R,m⟩:∃T H F R,MG j z n=(T,H,F,R):=⟨_,_,_,_,rfl⟩;obtain⟨A,U,L,o⟩:∃A U L,NT j z n=(A,U,L):=⟨_,_,_,rfl⟩;have r:SY j z (2+H*hv j.length) (hv j.length) F R n=(A,U,L):=by rw[<-o];unfold NT;rw[m]
 rw[m]at hg;rw[o]at dZ;unfold WG at hg;simp only at hg dZ;obtain⟨i,hH,hF,hR⟩:=hg;obtain⟨hU,hL,fO,b⟩:=dZ;have eX:=Z b;clear b;have eK:=Z (λs (b:Below w.heap.size w s)=>((b.cell (p:=⟨1,0,none⟩) fC).j cP));have eJ:=Z (λs (b:Below w.heap.size w s)=>((b.cell (p:=⟨0,0,none⟩) (by show 0<_;omega)).j cI));have cF:=Z (λs X k2 (b:Below w.heap.size w s)=>Hr a j c M z W n s X k2 hl dN hs dU ty v (eK.l _ b) (eJ.l _ b) (by have:=b.size;omega));rw[m]at cF;simp only[ZD]at cF;have g:=oh hH (q:=hv j.length) ω;have aO:=Z (λs X k2 (b:Below w.heap.size w s)=>(wX a j c M z W (2+H*hv j.length) (hv j.length) F R n s X k2 hl dN hs dU ω ω ty v (eK.l _ b) (eJ.l _ b) (by have:=b.size;omega)).A (λe t q=>qG q));rw[r]at aO;simp only[vu]at aO;have HH:=Z (λs=>ek (j.length:Int) s);have HB:=Z (λs=>vP (j.length:Int) H hH.1 hH.2 s)
 have eI:=Z (λK cx s X=>It K A cx s X ω (λe q=>by have:=eX.l e q;omega));unfold pz LQ at eI;clear g cP cI;have aH:=Z l;have q:=Z m;have g:=Z o;clear l m o r
 have eU:Hid (MX A []=none->D=LD 2):=λu=>d.l.j (ww aH.l g.l u)
 have eV:Hid (∀m,MX A []=some m->60000<L+1->D=LD 3):=λm u h4=>d.l.j (yk aH.l g.l u h4)
 have eG:Hid (∀m,MX A []=some m->¬60000<L+1->hv j.length-1<LT (LI m) n->D=LD 4):=λm u h4 h5=>d.l.j (tz aH.l g.l u h4 h5)
 have eH:Hid (∀m,MX A []=some m->¬60000<L+1->¬hv j.length-1<LT (LI m) n->hv j.length<=U->D=OH n j.length (L+1) T H F m):=λm u h4 h5 h6=>d.l.j (ke aH.l q.l g.l u h4 h5 h6)
 have cS:Hid (∀m,MX A []=some m->¬60000<L+1->¬hv j.length-1<LT (LI m) n->¬hv j.length<=U->D=⟨0,n,j.length,L+1,T,H,F,R,U+1,0,m,[(false,2+H*hv j.length+U,LS 3 (L+1) (F+U) ByteArray.empty n),(true,0,ByteArray.empty)]⟩):=λm u h4 h5 h6=>d.l.j (kn aH.l q.l g.l u h4 h5 h6)
 have eL:Hid (∀m,¬60000<L+1->¬hv j.length-1<LT (LI m) n->XN n j.length (L+1) T H F m):=λm h4 h5=>⟨aH.l.2,ω,ω,i,hH,hF,ω⟩
 clear q g d;obtain⟨Q,HQ⟩:∃Q,Hid (Q=hv j.length):=⟨_,Z rfl⟩;obtain⟨q,d⟩:∃q,q=2+H*Q:=⟨_,rfl⟩;rw[<-HQ.l]at hQ hU aO HH HB eG eH cS eL;rw[<-d]at aO HB cS;have fU:2<=q/\q<=101:=by have:=oh hH (q:=Q) ω;omega
 have eY:Hid (2+H*hv j.length=q):=by show _=_;rw[d,HQ.l]
 clear d;have fY:IntKind.i64.wrap (Q-1)=Q-1:=XM _ ω ω;have fX:IntKind.i64.wrap (L+1)=L+1:=XM _ ω ω;have fZ:IntKind.i64.wrap (U+1)=U+1:=XM _ ω ω;have fW:IntKind.i64.wrap (F+U)=F+U:=XM _ ω ω;have gD:IntKind.i64.wrap (q+U)=q+U:=XM _ ω ω;have l:=f.r1.y 0;have g:=f.r1.y 1;have o:=f.r1.lt;unfold LE at cF aO;go_wp2_with (go_at_call 45;refine(RX _ _).A ?_;rw[hd];refine NC ?_);clear l g o;refine(cF.l _ (h.z f.e) (h'.z f.e) f.e).A ?_;rintro x v4 ⟨rfl,b⟩;replace f:=f.z b;clear b;go_upto_region 5 with fail;generalize g:v4.alloc _=t;obtain⟨b,o,d⟩:=LF g;clear g;obtain⟨BR,l⟩:∃k,k=v4.heap.size:=⟨_,rfl⟩;rw[<-l]at d⊢;have B:=d.q;replace f:=f.z b;clear b d o l;go_cut [7] from 26 to 38 (λv7 s=>xE t s A U L v7)
 case first =>
  have dD:=(AC t.heap.size t).drew;refine YH (14) (S:=λp=>Row p w.heap.size [.slice a j.length c,.slice M z.length W]/\Row p BR [.int .i64 T,.int .i64 H,.int .i64 F,.int .i64 R]) κ (⟨f.r1.z dD,B.z dD⟩) (λN=>?_);refine OZ 0 (.agg #[.slice a j.length c,.slice M z.length W]) rfl (BW ⟨ρ,λw b=>by obtain⟨z0,P⟩:=b;have c:=z0.y 0;have d:=z0.y 1;have l:=z0.lt;go_simp⟩) N (MZ 1 (.int .i64 (j.length:Int)) rfl N (OZ 2 (.pointer (some ⟨BR,1,none⟩)) rfl (BW ⟨ρ,λw b=>by obtain⟨z0,P⟩:=b;have l:=P.lt;go_simp⟩) N (OZ 3 (.int .i64 H) rfl (BW ⟨ρ,λw b=>by obtain⟨z0,P⟩:=b;have c:=P.y 1;go_simp⟩) N (MZ 5 (.int .i64 (j.length:Int)) rfl N (OZ 7 (.pointer (some ⟨BR,2,none⟩)) rfl (BW ⟨ρ,λw b=>by obtain⟨z0,P⟩:=b;have l:=P.lt;go_simp⟩) N (OZ 8 (.int .i64 F) rfl (BW ⟨ρ,λw b=>by obtain⟨z0,P⟩:=b;have c:=P.y 2;go_simp⟩) N (OZ 9 (.pointer (some ⟨BR,3,none⟩)) rfl (BW ⟨ρ,λw b=>by obtain⟨z0,P⟩:=b;have l:=P.lt;go_simp⟩) N (OZ 10 (.int .i64 R) rfl (BW ⟨ρ,λw b=>by obtain⟨z0,P⟩:=b;have c:=P.y 3;go_simp⟩) N (MZ 11 (.int .i64 n) rfl N ?_)))))))))
  simp only[J];refine RZ (rs:=[4,13]) κ σ ?_;refine AllReadyT.cons rfl (λI o=>?_) (AllReadyT.cons rfl (λI o=>?_) AllReadyT.nil)
  focus
   refine LC ρ 80 #[.int .i64 (j.length:Int),.int .i64 H] γ (HB.l _) ?_;rintro e r ⟨rfl,b⟩;refine⟨_,rfl,?_⟩;rw[b];clear b r;refine o.l _ _ N (λ_=>?_)
   try simp only[J]
   refine RZ (rs:=[6,13]) κ σ ?_;refine AllReadyT.cons rfl (λI o=>?_) (AllReadyT.cons rfl (λI o=>?_) AllReadyT.nil)
   focus
    refine LC ρ 70 #[.int .i64 (j.length:Int)] γ (HH.l _) ?_;rintro e r ⟨rfl,b⟩;refine⟨_,rfl,?_⟩;rw[b];clear b r;refine o.l _ _ N (λ_=>?_)
    try simp only[J]
    refine RZ (rs:=[12,13]) κ σ ?_;refine AllReadyT.cons rfl (λI o=>?_) (AllReadyT.cons rfl (λI o=>?_) AllReadyT.nil)
    focus
     obtain⟨yb,b⟩:∃y,y=t.drew:=⟨_,rfl⟩;rw[<-b];have i:Below t.heap.size t yb:=by rw[b];exact(AC _ _).drew
     clear b;have r:=f.e.j (i.A f.e.size);refine LC ρ 94 #[.agg #[.slice a j.length c,.slice M z.length W],.int .i64 q,.int .i64 Q,.int .i64 F,.int .i64 R,.int .i64 n] γ (aO.l _ (h.z r) (h'.z r) r) ?_;rintro e aQ ⟨K,cx,rfl,E,O,b⟩;refine⟨_,rfl,?_⟩;have dX:=PD (lo:=yb.heap.size) E bm O
     have cL:∀g,blk K A.length=some g->t.heap.size<=g:=λg k=>AL i.size (O g k)
     replace i:=i.j (b.A i.size);clear b E r;refine o.l _ _ (⟨f.r1.z i,B.z i⟩) (λfA=>?_)
     try simp only[J]
     refine OY 13 rfl (λI o=>?_);go_simp;generalize C:World.alloc _ _=aU;obtain⟨b,G,E⟩:=LF C;obtain⟨S,r⟩:∃k,k=aQ.heap.size:=⟨_,rfl⟩;rw[<-r]at E⊢;have bW:t.heap.size<=S:=by rw[r];exact i.size
     have p:=E.q;have tX:aQ.heap.size<=S:=by rw[r];exact Y _
     replace dX:=dX.z b;replace i:=i.j (b.A i.size);clear b E G r C;refine o.l _ _ (⟨f.r1.z i,B.z i⟩) (λcU=>?_)
     try simp only[J]
     obtain⟨yz,rfl⟩:∃y,y=aU:=⟨_,rfl⟩;have cZ:=cU
    rotate_left
    focus
     obtain⟨yb,b⟩:∃y,y=t.drew:=⟨_,rfl⟩;rw[<-b];have i:Below t.heap.size t yb:=by rw[b];exact(AC _ _).drew
     clear b;go_simp;generalize C:World.alloc _ _=aU;obtain⟨b,G,E⟩:=LF C;obtain⟨S,r⟩:∃k,k=yb.heap.size:=⟨_,rfl⟩;rw[<-r]at E⊢;have bW:t.heap.size<=S:=by rw[r];exact i.size
     have p:=E.q;replace i:=i.j (b.A i.size);clear b E G r C;refine o.l _ _ (⟨f.r1.z i,B.z i⟩) (λfB=>?_)
     try simp only[J]
     refine OY 12 rfl (λI o=>?_);have r:=f.e.j (i.A f.e.size);refine LC ρ 94 #[.agg #[.slice a j.length c,.slice M z.length W],.int .i64 q,.int .i64 Q,.int .i64 F,.int .i64 R,.int .i64 n] γ (aO.l _ (h.z r) (h'.z r) r) ?_;rintro e aQ ⟨K,cx,rfl,E,O,b⟩;refine⟨_,rfl,?_⟩;have dX:=PD (lo:=aU.heap.size) E bm O
     have cL:∀g,blk K A.length=some g->t.heap.size<=g:=λg k=>AL i.size (O g k)
     have lX:=p.lt;replace p:=p.z b;replace i:=i.j (b.A i.size);clear b E r;refine o.l _ _ (⟨f.r1.z i,B.z i⟩) (λcV=>?_)
     try simp only[J]
     obtain⟨yz,rfl⟩:∃y,y=aQ:=⟨_,rfl⟩;have cZ:=cV
   rotate_left 2
   focus
    obtain⟨yb,b⟩:∃y,y=t.drew:=⟨_,rfl⟩;rw[<-b];have i:Below t.heap.size t yb:=by rw[b];exact(AC _ _).drew
    clear b;go_simp;generalize C:World.alloc _ _=aU;obtain⟨b,G,E⟩:=LF C;obtain⟨S,r⟩:∃k,k=yb.heap.size:=⟨_,rfl⟩;rw[<-r]at E⊢;have bW:t.heap.size<=S:=by rw[r];exact i.size
    have p:=E.q;replace i:=i.j (b.A i.size);clear b E G r C;refine o.l _ _ (⟨f.r1.z i,B.z i⟩) (λcW=>?_)
    try simp only[J]
    refine OY 6 rfl (λI o=>?_);refine LC ρ 70 #[.int .i64 (j.length:Int)] γ (HH.l _) ?_;rintro e r ⟨rfl,b⟩;refine⟨_,rfl,?_⟩;rw[b];clear b r;refine o.l _ _ cW (λ_=>?_)
    try simp only[J]
    refine OY 12 rfl (λI o=>?_);have r:=f.e.j (i.A f.e.size);refine LC ρ 94 #[.agg #[.slice a j.length c,.slice M z.length W],.int .i64 q,.int .i64 Q,.int .i64 F,.int .i64 R,.int .i64 n] γ (aO.l _ (h.z r) (h'.z r) r) ?_;rintro e aQ ⟨K,cx,rfl,E,O,b⟩;refine⟨_,rfl,?_⟩;have dX:=PD (lo:=aU.heap.size) E bm O
    have cL:∀g,blk K A.length=some g->t.heap.size<=g:=λg k=>AL i.size (O g k)
    have lX:=p.lt;replace p:=p.z b;replace i:=i.j (b.A i.size);clear b E r;refine o.l _ _ (⟨f.r1.z i,B.z i⟩) (λcY=>?_)
    try simp only[J]
    obtain⟨yz,rfl⟩:∃y,y=aQ:=⟨_,rfl⟩;have cZ:=cY
  rotate_left 3
  focus
   obtain⟨yb,b⟩:∃y,y=t.drew:=⟨_,rfl⟩;rw[<-b];have i:Below t.heap.size t yb:=by rw[b];exact(AC _ _).drew
   clear b;go_simp;generalize C:World.alloc _ _=aU;obtain⟨b,G,E⟩:=LF C;obtain⟨S,r⟩:∃k,k=yb.heap.size:=⟨_,rfl⟩;rw[<-r]at E⊢;have bW:t.heap.size<=S:=by rw[r];exact i.size
   have p:=E.q;replace i:=i.j (b.A i.size);clear b E G r C;refine o.l _ _ (⟨f.r1.z i,B.z i⟩) (λC=>?_)
   try simp only[J]
   refine OY 4 rfl (λI o=>?_);refine LC ρ 80 #[.int .i64 (j.length:Int),.int .i64 H] γ (HB.l _) ?_;rintro e r ⟨rfl,b⟩;refine⟨_,rfl,?_⟩;rw[b];clear b r;refine o.l _ _ C (λ_=>?_)
   try simp only[J]
   refine OY 6 rfl (λI o=>?_);refine LC ρ 70 #[.int .i64 (j.length:Int)] γ (HH.l _) ?_;rintro e r ⟨rfl,b⟩;refine⟨_,rfl,?_⟩;rw[b];clear b r;refine o.l _ _ C (λ_=>?_)
   try simp only[J]
   refine OY 12 rfl (λI o=>?_);have r:=f.e.j (i.A f.e.size);refine LC ρ 94 #[.agg #[.slice a j.length c,.slice M z.length W],.int .i64 q,.int .i64 Q,.int .i64 F,.int .i64 R,.int .i64 n] γ (aO.l _ (h.z r) (h'.z r) r) ?_;rintro e aQ ⟨K,cx,rfl,E,O,b⟩;refine⟨_,rfl,?_⟩;have dX:=PD (lo:=aU.heap.size) E bm O
   have cL:∀g,blk K A.length=some g->t.heap.size<=g:=λg k=>AL i.size (O g k)
   have lX:=p.lt;replace p:=p.z b;replace i:=i.j (b.A i.size);clear b E r;refine o.l _ _ (⟨f.r1.z i,B.z i⟩) (λbZ=>?_)
   try simp only[J]
   obtain⟨yz,rfl⟩:∃y,y=aQ:=⟨_,rfl⟩;have cZ:=bZ
  all_goals
   refine RZ (rs:=[14]) κ σ ?_;refine AllReadyT.last rfl (λI o=>?_);obtain⟨l0,l1,r⟩:=p.k3;obtain⟨b,E,G⟩:=p.z3;have ll:=p.lt;go_simp;clear l0 l1 r b E G ll;refine o.l _ _ trivial (λ_=>?_)
   try simp only[J]
   refine XH κ ?_ _;have G:=OG (OG (OG (BO yz (some S)) 0 (.slice K A.length cx)) 1 (.int .i64 U)) 2 (.int .i64 L);have E:=((p.set 0 σ (.slice K A.length cx)).set 1 σ (.int .i64 U)).set 2 σ (.int .i64 L)
   have b:=dX.I G (λg e=>by cases e;first|(left;omega)|(right;omega))
   have r:=i.j (MR G i.size (λx e=>by have e:=CZ e;omega));generalize cT:World.setCell (World.setCell (World.setCell _ _ _) _ _) _ _=yC at E b r⊢;clear cT G;go_wp2_with fail;go_meet;exact⟨S,K,cx,rfl,E,bW,b.q,cL,r⟩
 case rest =>
 obtain⟨S,K,cx,rfl,p,bW,E,O,b⟩:=hcut
 rename World=>v6
 replace f:=f.z b;replace B:=B.z b;clear b;have l:=p.y 0;have o:=p.lt;go_wp2_with fail;clear l o;have o:=Z (eI.l _ cx _ E.strs)
 cases u:MX A [] with
 | none =>
  obtain rfl:D=LD 2:=eU.l u;rw[u]at o;simp only[JJ,IV,AR]at o;clear u;refine(o.l).A ?_;rintro e v7 ⟨a6,c6,rfl,_,_,_,b⟩;replace f:=f.z b;clear b;go_upto_region 7 with fail;generalize l:v7.alloc _=v8;obtain⟨b,N,y⟩:=LF l;clear l N y;replace f:=f.z b;clear b;go_upto_region 8 with fail;refine f.noR 2 _ _ rfl γ rfl rfl rfl rfl (λy b l=>?_)
  try simp only[J]
  clear f
  try go_wp2
  refine VE 4 results55 _ ?_ b ?_ l.l<;>rfl
 | some m =>
  rw[u]at o;simp only[GF,IW]at o;have d:=ei A [] TQ m u;have b:=VS d;have eM:=Z b.2;have fV:=b.1;have cQ:=Z (eV.l m u);have aY:=Z (eG.l m u);have aZ:=Z (eH.l m u);have bE:=Z (cS.l m u);have bG:=Z (eL.l m);have C:=Z (λG I s X k2=>su n j.length (L+1) T H F R U 0 G m I s X k2 ω eM.l);have P:=Z (λG I s=>tR n j.length (L+1) T H F R U 0 G m.length I s ω ω);unfold MM at C P;rw[<-HQ.l]at C P;obtain⟨r,eZ⟩:∃r,Hid (r=LT (LI m) n):=⟨_,Z rfl⟩;rw[<-eZ.l]at C aY aZ bE bG;clear u b d;refine(o.l).A ?_;rintro e v7 ⟨a6,c6,rfl,cJ,l,dM,b⟩;have d:=PD (lo:=v6.heap.size) l RA dM
  have eT:∀g,blk a6 m.length=some g->g<v7.heap.size:=λg k=>ZW l k
  have l6:=f.r2.lt;have gF:v6.heap.size<=v7.heap.size:=b.size;replace f:=f.z b;replace p:=p.z b;replace B:=B.z b;clear b l o;go_upto_region 7 with fail;generalize l:v7.alloc _=v8;obtain⟨b,N,y⟩:=LF l;clear l;obtain⟨B8,l⟩:∃k,k=v7.heap.size:=⟨_,rfl⟩;rw[<-l]at y⊢;have u:=y.q;replace f:=f.z b;replace p:=p.z b;replace B:=B.z b;replace d:=d.z b;clear b y N l;have x1:=p.y 1;have x2:=p.y 2;have xl:=p.lt;obtain⟨o,y,N,t3⟩:=B.k4;have tl:=B.lt;have b:=u.y 0;have l:=u.lt;go_upto_region 10 with fail;clear x1 x2 xl o y N t3 tl b l;generalize o:v8.alloc _=v9;obtain⟨b,eF,l⟩:=LF o;clear o;obtain⟨N,y⟩:∃k,k=v8.heap.size:=⟨_,rfl⟩;rw[<-y]at l⊢;have o:Row v9 N (sJ n (j.length:Int) (L+1) T H F R U 0 (.slice a6 m.length c6)):=l.q;replace f:=f.z b;replace d:=d.z b;clear b l eF p B u y;have u:=o.y 2
  have p:=o.lt
  by_cases h4:60000<L+1
  case pos =>
   obtain rfl:D=LD 3:=cQ.l ω;go_upto_region 11 with fail;refine f.noR 3 _ _ rfl γ rfl rfl rfl rfl (λy b l=>?_)
   try simp only[J]
   clear f
   try go_wp2
   refine VE 4 results55 _ ?_ b ?_ l.l<;>rfl
  have fH:L+1<=60000:=ω
  go_upto_region 12 with fail;clear u p;refine BG ?_;refine AS rfl 33 _ rfl N 0 rfl _ _ o.range underlying33 rfl PC ?_;simp only[J];go_wp2_with fail;refine(C.l _ _ _ d.q.prs cJ).A ?_;rintro e va ⟨rfl,b⟩;replace f:=f.z b;replace o:=o.z b;replace d:=d.z b;clear b C
  by_cases h5:Q-1<r
  case pos =>
   obtain rfl:D=LD 4:=aY.l ω ω;rw[AJ (show ¬r<=Q-1 by omega)];go_upto_region 13 with fail;refine f.noR 4 _ _ rfl γ rfl rfl rfl rfl (λy b l=>?_)
   try simp only[J]
   clear f
   try go_wp2
   refine VE 4 results55 _ ?_ b ?_ l.l<;>rfl
  rw[AM (show r<=Q-1 by omega)];go_upto_region 14 with fail;refine BG ?_;refine AS rfl 33 _ rfl N 0 rfl _ _ o.range underlying33 rfl PC ?_;simp only[J];go_wp2_with fail;refine(P.l _ _ _).A ?_;rintro e vb ⟨rfl,b⟩;replace f:=f.z b;replace o:=o.z b;replace d:=d.z b;clear b P;have gG:v7.heap.size<=vb.heap.size:=d.top
  by_cases h6:Q<=U
  case pos =>
   have fJ:Q-U=0:=ω
   have p:=bG.l ω ω;have b:D=OH n j.length (L+1) T H F m:=aZ.l ω ω ω;have l:=Z (λG I s X k2=>WJ n j.length (L+1) T H F R U 0 G m I s X k2 ω eM.l p);rw[<-b]at l;unfold MM at l;clear b p;go_upto_region 15 with fail;refine BG ?_;refine AS rfl 33 _ rfl N 0 rfl _ _ o.range underlying33 rfl PC ?_;simp only[J];go_wp2_with fail;refine(l.l _ _ _ d.q.prs cJ).A ?_;rintro e vc ⟨p,B,u,oe,rfl,dR,fF,cO,X,b⟩;have lb:=b.size;replace f:=f.z b;replace d:=d.z b;clear b l;unfold MV
   obtain⟨aT,own,g1⟩:D.rs.length<=B/\OwnDn vc D.rs D.ops p u/\(∀g,blk p D.rs.length=some g->v6.heap.size<=g):=by
    rcases fF with ⟨rfl,rfl,P⟩|P
    ·rw[P]
     exact⟨cJ,⟨d.q,cO,ZV eT (λg k=>by have:=X g k;omega)⟩,dM⟩
    rw[P]
    exact⟨AO _,⟨.inl rfl,cO,.inl rfl⟩,λg k=>by cases k⟩
   have P:=l6
   try simp only[J]
   refine‹∀(a:Act) (w:World),wpList _ _ _ _ a w->_› _ _ ?_
   refine BI rfl 48 _ _ rfl (w.heap.size+1) 0 (dK D.C D.W D.S D.L D.T D.H D.F D.R D.U D.O (.slice p D.rs.length B) (.slice u D.ops.length oe)) rfl rfl (f.r2.there rfl) TH κ ?_
   try simp only[J]
   obtain⟨b,y⟩:=f.fin D p B u oe aT own (λg k=>by have:=g1 g k;omega) (λg k=>by have:=X g k;omega);have l:=Z y;clear y;generalize C:World.setCells _ _ _ _=y at b l⊢;clear C f
   try go_wp2
   refine VE 4 results55 _ ?_ b ?_ l.l dR<;>rfl
  have p:¬Q-U=0:=ω
  have fI:(Q-U == 0)=false:=by simp[p]
  have l:=Z (λG I s=>Hy n j.length (L+1) T H F R U 0 G m I s hH hF ω);have b:=bE.l ω ω ω;rw[eY.l]at l;rw[<-b]at l;have P:D.rs=m:=by rw[b]
  unfold MM at l;clear b p;go_upto_region 16 with fail;refine BG ?_;refine AS rfl 33 _ rfl N 0 rfl _ _ o.range underlying33 rfl PC ?_;simp only[J];go_wp2_with fail;refine(l.l _ _ _).A ?_;rintro e vc ⟨u,oe,rfl,dR,cO,X,b⟩;have lb:=b.size;replace f:=f.z b;replace d:=d.z b;clear b l;unfold MV;obtain⟨p,rfl⟩:∃x,x=a6:=⟨_,rfl⟩;obtain⟨B,rfl⟩:∃x,x=c6:=⟨_,rfl⟩
  obtain⟨aT,own,g1⟩:D.rs.length<=B/\OwnDn vc D.rs D.ops p u/\(∀g,blk p D.rs.length=some g->v6.heap.size<=g):=by
   rw[P];exact⟨cJ,⟨d.q,cO,ZV eT (λg k=>by have:=X g k;omega)⟩,dM⟩
  try simp only[J]
  refine‹∀(a:Act) (w:World),wpList _ _ _ _ a w->_› _ _ ?_
  refine BI rfl 48 _ _ rfl (w.heap.size+1) 0 (dK D.C D.W D.S D.L D.T D.H D.F D.R D.U D.O (.slice p D.rs.length B) (.slice u D.ops.length oe)) rfl rfl (f.r2.there rfl) TH κ ?_
  try simp only[J]
  obtain⟨b,y⟩:=f.fin D p B u oe aT own (λg k=>by have:=g1 g k;omega) (λg k=>by have:=X g k;omega);have l:=Z y;clear y;generalize C:World.setCells _ _ _ _=y at b l⊢;clear C f
  try go_wp2
  refine VE 4 results55 _ ?_ b ?_ l.l dR<;>rfl
