import Derived.Test.YtjdmogljfdffeaaGreatDoorPrG40
set_option maxHeartbeats 16000000
namespace Go.Proofs.YtjdmogljfdffeaaGreatDoor
open Tryz
open Go.RowKit
set_option linter.all false
set_option maxRecDepth 8000
theorem nR{w:World}{a n m:Nat}{f:Option Addr}{c:List OpT}(h:w.ownsRow a 78 3 (.slice f n m) c.length (NJ c)):n=c.length/\OwnS w f (NJ c)/\∀g,blk f c.length=some g->a<=g/\g<w.heap.size:=by
 rcases MO h with ⟨b,d⟩|⟨g,i,b,d,j,e⟩
 ·injection b with b j e
  rw[d];exact⟨ω,.inl (by rw[AB d];rfl),λg k=>by simp[blk]at k⟩
 injection b with b l o
 subst b
 exact⟨l,.inr ⟨g,rfl,e⟩,λp k=>by
  unfold blk at k
  split at k
  ·cases k
  simp at k;subst k;exact⟨d,e.lt⟩⟩
theorem vH(W S L T H F R U O:Int)(a:Option Addr)(s:List Pr)(c:Nat)(I:Option Addr)(b:List Ch)(c2:Nat)(w:World)(h:Prs w a s)(hc:s.length<=c)(hl:s.length<=1048576)(hs:∀x∈s,x.1.size<=1048576/\x.2.size<=1048576)(h2:Chs w I b)(bE:b.length<=1048576)(K:∀x∈b,x.1.size<=1048576/\x.2.1.size<=1048576):Calls prog 7 #[MM W S L T H F R U O a s.length c,.slice I b.length c2] w λx j=>ex w j x (NR W S L T H F R U O s b):=by
 have k:=Z (λj e=>kz W S L T H F R U O a s c j e hc hl hs);have p:=Z (λj e=>dk I b c2 j e bE K);have G:=Z (λj e d=>p5 a s c I b c2 j e hl hs d bE K);unfold YU LQ at G;have cO:=qx s b;have bU:=Z (nM s b (λx=>x.1.size<=1048576/\x.2.size<=1048576) hs K);obtain⟨D,A⟩:∃D,Hid (D=NR W S L T H F R U O s b):=⟨_,Z rfl⟩;rw[<-A.l];have i:=A.l;unfold NR at i;clear A;obtain⟨o,bT⟩:∃o,Hid (o=OA s b):=⟨_,Z rfl⟩;obtain⟨P,cE⟩:∃P,Hid (P=OE s b):=⟨_,Z rfl⟩;rw[<-bT.l]at cO bU;rw[<-bT.l,<-cE.l]at G i;have HH:=Z h;have aS:=Z h2;have cH:=Z K;clear h h2 hs K;unfold MM at k⊢;have g:=Z i;clear i;go_enter func7,ntmps7;go_upto_region 1 with fail;generalize d:w.alloc _=v1;obtain⟨i,m,n⟩:=LF d;clear d;generalize d:v1.alloc _=v2;obtain⟨l,q,f⟩:=LF d;clear d;rw[m]at f;have d:StB w v2 (sJ W S L T H F R U O (.slice a s.length c)) (λ_=>True):=⟨i.j (l.A i.size),(n.z l).q,f.q,SK (λ_=>trivial)⟩
 have r:w.heap.size+1<v2.heap.size:=f.q.lt;clear i l n f m q;refine BG ?_;refine AS rfl 33 _ rfl w.heap.size 0 rfl _ _ d.r1.range underlying33 rfl PC ?_;simp only[J];go_wp2_with fail;refine(k.l _ (HH.l.z d.e)).A ?_;rintro x v3 ⟨rfl,f⟩;replace d:=d.z f;clear f r k
 cases hok:NE W S L T H F R U O s
 focus
  obtain rfl:D=LD 1:=by rw[g.l,AG (by rw[hok];simp)]
  go_upto_region 2 with fail;refine d.noR 1 _ _ rfl γ rfl rfl rfl rfl (λy u z=>?_)
 rotate_left
 focus
  go_wp2_with fail;refine(p.l _ (aS.l.z d.e)).A ?_;rintro x v4 ⟨rfl,f⟩;replace d:=d.z f;clear f p
  cases hokb:NL b
  focus
   obtain rfl:D=LD 1:=by rw[g.l,AG (by rw[hokb];simp)]
   go_upto_region 2 with fail;refine d.noR 1 _ _ rfl γ rfl rfl rfl rfl (λy u z=>?_)
  rotate_left
  focus
   have i:=g.l;rw[AF (by rw[hok,hokb];rfl)]at i;obtain⟨hW,hS,cQ,hT,hH,hF,hU,hO,_⟩:=UE hok;have hQ:=PJ hS;clear hok hokb g;obtain⟨n,rfl⟩:∃n:Nat,W=(n:Int):=⟨W.toNat,ω⟩;have f:(n:Int).toNat=n:=ω
   rw[f]at i;obtain⟨m,g⟩:∃m,m=56-n:=⟨_,rfl⟩;rw[<-g]at i;have bZ:n+m=56:=ω
   clear f g;have HF:=Z (λj e=>vm I b c2 j e bE cH.l);have cS:=an b;have M:=Z (λj=>uy (KZ b) (n:Int) j ω);have cA:=jn (KZ b).size (n:Int) ω ω;have q:=yg (KZ b) L (F+U) n m bZ ω ω cQ ω;have p:=Z (λf g j e k=>su (n:Int) S L T H F R U O f o g j e k ω bU.l);have aQ:=Z (λf g j=>tR (n:Int) S L T H F R U O f o.length g j hU.1 ω);have E:=Z (λf g j=>om (n:Int) S L T H F R U O f o.length g j hH.1 hH.2 hF.1 hF.2 hU.1 ω);have C:=Z (λk g v r j hW f l=>tP k g v r (2+H*hv S+U) (F+U) L n m (KZ b) j hW f ω l bZ ω ω (by have:0<=H*hv S:=Int.mul_nonneg hH.1 ω;omega) (by rcases(show H=0\/H=1 by omega) with e|e<;>subst e<;>omega) ω ω);unfold MM at p aQ E;obtain⟨Q,HQ⟩:∃Q,Hid (Q=hv S):=⟨_,Z rfl⟩
   obtain⟨N,X⟩:∃N,Hid (N=MY (KZ b).size (n:Int)):=⟨_,Z rfl⟩;obtain⟨bo,k⟩:∃bo,bo=KZ b:=⟨_,rfl⟩;obtain⟨t,hcut⟩:∃t,t=NV (KZ b) L (F+U) n m:=⟨_,rfl⟩;have l:(t.length:Int)=N:=by rw[hcut,X.l];exact q ω
   rw[<-hcut]at C i;rw[<-k]at HF M C cS cA;rw[<-k]at X;rw[<-X.l]at cA M;rw[<-HQ.l]at hQ hU p aQ E C i;rw[<-k,<-X.l]at i;clear q hcut k;obtain⟨q,k⟩:∃q,q=2+H*Q:=⟨_,rfl⟩
   have dN:2<=q/\q<=101:=by
    rcases(show H=0\/H=1 by omega) with e|e
    ·subst e;omega
    subst e;omega
   rw[<-k]at E C i;clear k;obtain⟨r,cF⟩:∃r,Hid (r=LT (LI o) (n:Int)):=⟨_,Z rfl⟩;rw[<-cF.l]at p i;have A:=Z i;have aZ:=Z l;clear i l;have dQ:IntKind.i64.wrap (U+N)=U+N:=by simp[IntKind.wrap,IntKind.bits,IntKind.signed];omega
   have dR:IntKind.i64.wrap (O+N)=O+N:=by simp[IntKind.wrap,IntKind.bits,IntKind.signed];omega
   have c9:=d.r1.y 9;have l:=d.r1.lt;go_wp2_with fail;clear c9 l;refine(G.l _ (HH.l.z d.e) (aS.l.z d.e)).A ?_;rintro x v5 ⟨v,B,rfl,bW,k,hg,f⟩;have l4:=d.r2.lt;have i:=PD (lo:=v4.heap.size) k RA hg;replace d:=d.z f;clear f G k;go_upto_region 4 with fail;generalize k:v5.alloc _=v6;obtain⟨f,bQ,b5⟩:=LF k;clear k;have G:=b5.q;obtain⟨X5,l⟩:∃k,k=v5.heap.size:=⟨_,rfl⟩;rw[<-l]at G⊢;have l5:w.heap.size+1<X5:=by rw[l];exact d.r2.lt
   replace d:=d.z f;replace i:=i.z f;clear f b5 bQ l;generalize Value.tuple _=T0;generalize Value.agg _=A0
   try generalize Value.agg _=A9
   by_cases hC:P=0
   rotate_left
   focus
    obtain rfl:D=LD 2:=by rw[A.l,AG hC]
    have dM:(P == 0)=false:=by simp[hC]
    go_upto_region 5 with fail;refine d.noR 2 _ _ rfl γ rfl rfl rfl rfl (λy u z=>?_)
   rotate_left
   focus
    have dL:=Z hC;subst hC;have f:=G.y 0;have cI:=G.lt;have c9:=d.r1.y 9;have f9:=d.r1.E 9;have l:=d.r1.lt;go_upto_region 7 with fail;clear f cI c9 f9 l;replace d:=d.set 9 σ (.slice v o.length B);replace i:=i.I (OG (BO v6 (some w.heap.size)) 9 (.slice v o.length B)) (λg e=>by cases e;omega);generalize f:World.setCell _ _ _=v7 at d i⊢;clear f G;go_wp2_with fail;refine(HF.l _ (aS.l.z d.e)).A ?_;rintro x v8 ⟨rfl,f⟩;replace d:=d.z f;replace i:=i.z f;clear f HF;have f:=d.r1.y 0;have l:=d.r1.lt;go_wp2_with fail;clear f l;refine(M.l _).A ?_;rintro x v9 ⟨rfl,f⟩;replace d:=d.z f;replace i:=i.z f;clear f M;go_upto_region 9 with fail;refine BG ?_;refine AS rfl 33 _ rfl w.heap.size 0 rfl _ _ d.r1.range underlying33 rfl PC ?_;simp only[J];go_wp2_with fail
    refine(p.l _ _ _ i.q.prs bW).A ?_;rintro x va ⟨rfl,f⟩;replace d:=d.z f;replace i:=i.z f;clear f p
    by_cases M:r<=Q-1
    rotate_left
    focus
     obtain rfl:D=LD 3:=by rw[A.l,AF trivial,AG M]
     rw[AJ M];go_upto_region 10 with fail;refine d.noR 3 _ _ rfl γ rfl rfl rfl rfl (λy u z=>?_)
    rotate_left
    focus
     rw[AM M];go_upto_region 11 with fail;refine BG ?_;refine UB rfl (.int .i64 N) γ ?_;simp only[J];refine AS rfl 33 _ rfl w.heap.size 0 rfl _ _ d.r1.range underlying33 rfl PC ?_;simp only[J];go_wp2_with fail;refine(aQ.l _ _ _).A ?_;rintro x vb ⟨rfl,f⟩;replace d:=d.z f;replace i:=i.z f;clear f aQ;have dH:=d.r2.lt;have cY:=i.top
     have cZ:∀g,blk v o.length=some g->g<vb.heap.size:=λg k=>ZW i.q k
     by_cases hp:N<=Q-U
     rotate_left
     focus
      obtain rfl:D=LD 4:=by rw[A.l,AF trivial,AF M,AG hp]
      have cV:Q-U<N:=ω
      go_upto_region 12 with fail;refine d.noR 4 _ _ rfl γ rfl rfl rfl rfl (λy u z=>?_)
     rotate_left
     focus
      have cV:¬(Q-U<N):=ω
      obtain rfl:D=⟨0,(n:Int),S,L,T,H,F,R,U+N,O+N,o,MA (q+U) t⟩:=by rw[A.l,AF trivial,AF M,AF hp]
      go_upto_region 13 with fail;refine BG ?_;refine AS rfl 33 _ rfl w.heap.size 0 rfl _ _ d.r1.range underlying33 rfl PC ?_;simp only[J];go_wp2_with fail;refine(E.l _ _ _).A ?_;rintro x vc ⟨g,rfl,p,f⟩;replace d:=d.z f;replace i:=i.z f;have lb:=f.size;clear f E;go_wp2_with fail;refine(C.l _ _ _ _ _ p lb (by have:=aZ.l;simp;omega)).A ?_;rintro x vd ⟨⟨x5,rfl⟩,v',p,f,-⟩;replace d:=d.low f dH;replace i:=i.low f cY;clear f C
      obtain⟨E,yn,G,rfl⟩:∃a n c,v'=.slice a n c:=by
       rcases MO p.own with ⟨e,_⟩|⟨g,f,e,_⟩<;>exact⟨_,_,_,e⟩
      rw[DQ]at p;obtain⟨cC,bG,bH⟩:=nR p.own;rw[RF]at cC;subst cC;have f:=d.r1.y 7;have C:=d.r1.y 8;have f7:=d.r1.E 7;have f8:=d.r1.E 8;have l:=d.r1.lt;go_upto_region 17 with fail;clear f f7 C f8 l;replace d:=(d.set 7 σ (.int .i64 (U+N))).set 8 σ (.int .i64 (O+N));replace p:=(p.set w.heap.size 7 ω (.int .i64 (U+N))).set w.heap.size 8 ω (.int .i64 (O+N));replace i:=(i.I (OG (BO vd (some w.heap.size)) 7 (.int .i64 (U+N))) (λg e=>by cases e;omega)).I (OG (BO _ (some w.heap.size)) 8 (.int .i64 (O+N))) (λg e=>by cases e;omega);generalize f:World.setCell (World.setCell _ _ _) _ _=C at d p i⊢;clear f bG;have dD:=AC C.heap.size C;refine YH (6) (S:=λj=>Row j w.heap.size (sJ (n:Int) S L T H F R (U+N) (O+N) (.slice v o.length B))/\j.cell? ⟨g,0,none⟩=some (.slice E t.length G)) κ (⟨d.r1.z dD.drew,(p.z dD.drew).row.y 0⟩) (λf=>?_)
      refine OZ 0 (.agg (sK (n:Int) S L T H F R (U+N) (O+N) (.slice v o.length B))) rfl (BW ⟨ρ,λw p=>by obtain⟨z0,z1⟩:=p;exact RK 33 _ rfl _ 0 rfl _ _ z0.range underlying33 rfl PC⟩) f (MZ 1 (.pointer (some ⟨g,0,none⟩)) rfl f (MZ 2 (.pointer (some ⟨g,0,none⟩)) rfl f (OZ 3 (.pointer (some ⟨g,0,none⟩)) rfl (BW ⟨ρ,λw p=>by obtain⟨z0,z1⟩:=p;have l:=DI _ _ z1;go_simp⟩) f (MZ 4 (.slice E t.length G) rfl f (MZ 5 (.agg (dK 0 (n:Int) S L T H F R (U+N) (O+N) (.slice v o.length B) (.slice E t.length G))) rfl f ?_)))));simp only[J];refine RZ (rs:=[6]) κ σ ?_;refine AllReadyT.last rfl (λKq cP=>?_);have S8:=d.z (AC C.heap.size C).drew;refine SU rfl 48 _ _ rfl (w.heap.size+1) 0 (dK 0 (n:Int) S L T H F R (U+N) (O+N) (.slice v o.length B) (.slice E t.length G)) rfl rfl (S8.r2.there rfl) TH κ ?_
      refine cP.l _ _ trivial (λ_=>?_)
      try simp only[J]
      refine XH κ ?_ _;have dd:=(AC C.heap.size C).drew;have cW:=RF (q+U) t;obtain⟨_,bG,bI⟩:=nR (LR p.own dd);have aM:=qf p.own
      have bH:=λg k=>(bI g k).1
      obtain⟨u,j⟩:=S8.fin ⟨0,(n:Int),S,L,T,H,F,R,U+N,O+N,o,MA (q+U) t⟩ v B E G bW ⟨(i.z dd).q,bG,ZV (N:=vb.heap.size) cZ (λg k=>bH g k)⟩ (λg k=>by have:=hg g k;omega) (λg k=>by have:=bH g k;omega);have z:=Z j;clear j;simp only[UL,RF]at u z;generalize j:World.setCells _ _ _ _=y at u z⊢;clear j d
      try go_wp2
      refine VE 4 results7 (a:=v) (c:=B) (b:=E) (e:=G) _ ?_ (by simp only[UL,RF];exact u) ?_ z.l (by rw[cW]at aM⊢;exact aM)<;>rfl
  rotate_left 3
 rotate_left 4
 all_goals
  try simp only[J]
  clear d
  try go_wp2
  refine VE 4 results7 _ ?_ u ?_ z.l<;>rfl
