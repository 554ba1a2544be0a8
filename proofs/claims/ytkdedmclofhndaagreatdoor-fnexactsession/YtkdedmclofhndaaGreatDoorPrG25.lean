import Derived.Test.YtkdedmclofhndaaGreatDoorPrG39
import Derived.Test.YtkdedmclofhndaaGreatDoorPrG45
import Derived.Test.YtkdedmclofhndaaGreatDoorPrG40
set_option maxHeartbeats 16000000
set_option maxRecDepth 8000
set_option linter.all false
namespace Go.Proofs.YtkdedmclofhndaaGreatDoor
open Tryz
open Go.RowKit
variable {cs:List qD}{w:xV}
theorem pJ{a n m:Nat}{f:xA}{c:List OpT}(h:w.ownsRow a 136 3 (yI f n m) c.length (Or c)):n=c.length/\OwnS w f (Or c)/\∀g,blk f c.length=some g->a<=g/\g<w.heap.size:=by
 rcases MC h with ⟨b,d⟩|⟨g,i,b,d,j,e⟩
 ·injection b with b j e
  rw[d];exact⟨ω,.inl (by rw[AD d];rfl),λg k=>by simp[blk]at k⟩
 injection b with b l o
 subst b
 exact⟨l,.inr ⟨g,rfl,e⟩,λp k=>by
  unfold blk at k
  split at k
  ·cases k
  simp at k;subst k;exact⟨d,e.lt⟩⟩
theorem yU(W S L T H F R U O:Int)(a:xA)(s:List Pr)(c:Nat)(I:xA)(b:List Ch)(X:Nat)(w:xV)(h:Prs w a s)(hc:s.length<=c)(hl:s.length<=1048576)(hs:∀x∈s,x.1.size<=1048576/\x.2.size<=1048576)(h2:Chs w I b)(bB:b.length<=1048576)(J:∀x∈b,x.1.size<=1048576/\x.2.1.size<=1048576):Calls prog 150 #[MI W S L T H F R U O a s.length c,yI I b.length X] w λx j=>ef w j x (PJ W S L T H F R U O s b):=by
 have k:=Y (λj e=>kz W S L T H F R U O a s c j e hc hl hs);have p:=Y (λj e=>de I b X j e bB J);have G:=Y (λj e d=>sV a s c I b X j e hl hs d bB J);unfold YK LR at G;have cF:=ro s b;have bJ:=Y (pC s b (λx=>x.1.size<=1048576/\x.2.size<=1048576) hs J);obtain⟨D,A⟩:∃D,Hid (D=PJ W S L T H F R U O s b):=⟨_,Y rfl⟩;rw[<-A.j];have i:=A.j;unfold PJ at i;clear A;obtain⟨o,bI⟩:∃o,Hid (o=PH s b):=⟨_,Y rfl⟩;obtain⟨M,bW⟩:∃M,Hid (M=PK s b):=⟨_,Y rfl⟩;rw[<-bI.j]at cF bJ;rw[<-bI.j,<-bW.j]at G i;have HH:=Y h;have aS:=Y h2;have bZ:=Y J;clear h h2 hs J;unfold MI at k⊢;have g:=Y i;clear i;go_enter func150,ntmps150;go_upto_region 1 with fail;generalize d:w.alloc _=v1;obtain⟨i,m,n⟩:=LK d;clear d;generalize d:v1.alloc _=v2;obtain⟨l,q,f⟩:=LK d;clear d;rw[m]at f;have d:StB w v2 (sJ W S L T H F R U O (yI a s.length c)) (λ_=>True):=⟨i.E (l.J i.size),(n.I l).q,f.q,UO (λ_=>trivial)⟩
 have r:w.heap.size+1<v2.heap.size:=f.q.lt;clear i l n f m q;refine AV ?_;refine AZ rfl 39 _ rfl w.heap.size 0 rfl _ _ d.r1.range underlying39 rfl OQ ?_;simp only[PS];go_wp2_with fail;refine(k.j _ (HH.j.I d.e)).J ?_;rintro x v3 ⟨rfl,f⟩;replace d:=d.I f;clear f r k
 cases hok:NX W S L T H F R U O s
 focus
  obtain rfl:D=LJ 1:=by rw[g.j,AF (by rw[hok];simp)]
  go_upto_region 2 with fail;refine d.noR 1 _ _ rfl γ rfl rfl rfl rfl (λy u z=>?_)
 rotate_left
 focus
  go_wp2_with fail;refine(p.j _ (aS.j.I d.e)).J ?_;rintro x v4 ⟨rfl,f⟩;replace d:=d.I f;clear f p
  cases hokb:OM b
  focus
   obtain rfl:D=LJ 1:=by rw[g.j,AF (by rw[hokb];simp)]
   go_upto_region 2 with fail;refine d.noR 1 _ _ rfl γ rfl rfl rfl rfl (λy u z=>?_)
  rotate_left
  focus
   have i:=g.j;rw[AI (by rw[hok,hokb];rfl)]at i;obtain⟨hW,hS,cI,hT,hH,hF,hU,hO,_⟩:=WV hok;have hQ:=PG hS;clear hok hokb g;obtain⟨n,rfl⟩:∃n:Nat,W=(n:Int):=⟨W.toNat,ω⟩;have f:(n:Int).toNat=n:=ω
   rw[f]at i;obtain⟨m,g⟩:∃m,m=56-n:=⟨_,rfl⟩;rw[<-g]at i;have bT:n+m=56:=ω
   clear f g;have HF:=Y (λj e=>wu I b X j e bB bZ.j);have cJ:=ac b;have K:=Y (λj=>vq (MA b) (n:Int) j ω);have bU:=mM (MA b).size (n:Int) ω ω;have q:=xH (MA b) L (F+U) n m bT ω ω cI ω;have p:=Y (λf g j e k=>tq (n:Int) S L T H F R U O f o g j e k ω bJ.j);have V:=Y (λf g j=>wP (n:Int) S L T H F R U O f o.length g j hU.1 ω);have E:=Y (λf g j=>ph (n:Int) S L T H F R U O f o.length g j hH.1 hH.2 hF.1 hF.2 hU.1 ω);have C:=Y (λk g v r j hW f l=>wJ k g v r (2+H*hv S+U) (F+U) L n m (MA b) j hW f ω l bT ω ω (by have:0<=H*hv S:=Int.mul_nonneg hH.1 ω;omega) (by rcases(show H=0\/H=1 by omega) with e|e<;>subst e<;>omega) ω ω);unfold MI at p V E;obtain⟨Q,HQ⟩:∃Q,Hid (Q=hv S):=⟨_,Y rfl⟩
   obtain⟨N,P⟩:∃N,Hid (N=OO (MA b).size (n:Int)):=⟨_,Y rfl⟩;obtain⟨bo,k⟩:∃bo,bo=MA b:=⟨_,rfl⟩;obtain⟨t,hcut⟩:∃t,t=OC (MA b) L (F+U) n m:=⟨_,rfl⟩;have l:(t.length:Int)=N:=by rw[hcut,P.j];exact q ω
   rw[<-hcut]at C i;rw[<-k]at HF K C cJ bU;rw[<-k]at P;rw[<-P.j]at bU K;rw[<-HQ.j]at hQ hU p V E C i;rw[<-k,<-P.j]at i;clear q hcut k;obtain⟨q,k⟩:∃q,q=2+H*Q:=⟨_,rfl⟩
   have cW:2<=q/\q<=101:=by
    rcases(show H=0\/H=1 by omega) with e|e
    ·subst e;omega
    subst e;omega
   rw[<-k]at E C i;clear k;obtain⟨r,bY⟩:∃r,Hid (r=MG (MK o) (n:Int)):=⟨_,Y rfl⟩;rw[<-bY.j]at p i;have A:=Y i;have aZ:=Y l;clear i l;have cX:IntKind.i64.wrap (U+N)=U+N:=by simp[IntKind.wrap,IntKind.bits,IntKind.signed];omega
   have cY:IntKind.i64.wrap (O+N)=O+N:=by simp[IntKind.wrap,IntKind.bits,IntKind.signed];omega
   have c9:=d.r1.y 9;have l:=d.r1.lt;go_wp2_with fail;clear c9 l;refine(G.j _ (HH.j.I d.e) (aS.j.I d.e)).J ?_;rintro x v5 ⟨v,B,rfl,bQ,k,hg,f⟩;have l4:=d.r2.lt;have i:=QF (lo:=v4.heap.size) k RG hg;replace d:=d.I f;clear f G k;go_upto_region 4 with fail;generalize k:v5.alloc _=v6;obtain⟨f,bH,b5⟩:=LK k;clear k;have G:=b5.q;obtain⟨X5,l⟩:∃k,k=v5.heap.size:=⟨_,rfl⟩;rw[<-l]at G⊢;have l5:w.heap.size+1<X5:=by rw[l];exact d.r2.lt
   replace d:=d.I f;replace i:=i.I f;clear f b5 bH l;generalize Value.tuple _=T0;generalize Value.agg _=A0
   try generalize Value.agg _=A9
   by_cases hC:M=0
   rotate_left
   focus
    obtain rfl:D=LJ 2:=by rw[A.j,AF hC]
    have cV:(M == 0)=false:=by simp[hC]
    go_upto_region 5 with fail;refine d.noR 2 _ _ rfl γ rfl rfl rfl rfl (λy u z=>?_)
   rotate_left
   focus
    have cT:=Y hC;subst hC;have f:=G.y 0;have cA:=G.lt;have c9:=d.r1.y 9;have f9:=d.r1.A 9;have l:=d.r1.lt;go_upto_region 7 with fail;clear f cA c9 f9 l;replace d:=d.set 9 σ (yI v o.length B);replace i:=i.V (NA (AY v6 (some w.heap.size)) 9 (yI v o.length B)) (λg e=>by cases e;omega);generalize f:World.setCell _ _ _=v7 at d i⊢;clear f G;go_wp2_with fail;refine(HF.j _ (aS.j.I d.e)).J ?_;rintro x v8 ⟨rfl,f⟩;replace d:=d.I f;replace i:=i.I f;clear f HF;have f:=d.r1.y 0;have l:=d.r1.lt;go_wp2_with fail;clear f l;refine(K.j _).J ?_;rintro x v9 ⟨rfl,f⟩;replace d:=d.I f;replace i:=i.I f;clear f K;go_upto_region 9 with fail;refine AV ?_;refine AZ rfl 39 _ rfl w.heap.size 0 rfl _ _ d.r1.range underlying39 rfl OQ ?_;simp only[PS];go_wp2_with fail
    refine(p.j _ _ _ i.q.prs bQ).J ?_;rintro x va ⟨rfl,f⟩;replace d:=d.I f;replace i:=i.I f;clear f p
    by_cases K:r<=Q-1
    rotate_left
    focus
     obtain rfl:D=LJ 3:=by rw[A.j,AI trivial,AF K]
     rw[AH K];go_upto_region 10 with fail;refine d.noR 3 _ _ rfl γ rfl rfl rfl rfl (λy u z=>?_)
    rotate_left
    focus
     rw[AM K];go_upto_region 11 with fail;refine AV ?_;refine SO rfl (Z N) γ ?_;simp only[PS];refine AZ rfl 39 _ rfl w.heap.size 0 rfl _ _ d.r1.range underlying39 rfl OQ ?_;simp only[PS];go_wp2_with fail;refine(V.j _ _ _).J ?_;rintro x vb ⟨rfl,f⟩;replace d:=d.I f;replace i:=i.I f;clear f V;have cS:=d.r2.lt;have cP:=i.top
     have cQ:∀g,blk v o.length=some g->g<vb.heap.size:=λg k=>ZP i.q k
     by_cases hp:N<=Q-U
     rotate_left
     focus
      obtain rfl:D=LJ 4:=by rw[A.j,AI trivial,AI K,AF hp]
      have cN:Q-U<N:=ω
      go_upto_region 12 with fail;refine d.noR 4 _ _ rfl γ rfl rfl rfl rfl (λy u z=>?_)
     rotate_left
     focus
      have cN:¬(Q-U<N):=ω
      obtain rfl:D=⟨0,(n:Int),S,L,T,H,F,R,U+N,O+N,o,MM (q+U) t⟩:=by rw[A.j,AI trivial,AI K,AI hp]
      go_upto_region 13 with fail;refine AV ?_;refine AZ rfl 39 _ rfl w.heap.size 0 rfl _ _ d.r1.range underlying39 rfl OQ ?_;simp only[PS];go_wp2_with fail;refine(E.j _ _ _).J ?_;rintro x vc ⟨g,rfl,p,f⟩;replace d:=d.I f;replace i:=i.I f;have lb:=f.size;clear f E;go_wp2_with fail;refine(C.j _ _ _ _ _ p lb (by have:=aZ.j;simp;omega)).J ?_;rintro x vd ⟨⟨x5,rfl⟩,v',p,f,-⟩;replace d:=d.low f cS;replace i:=i.low f cP;clear f C
      obtain⟨E,yn,G,rfl⟩:∃a n c,v'=yI a n c:=by
       rcases MC p.own with ⟨e,_⟩|⟨g,f,e,_⟩<;>exact⟨_,_,_,e⟩
      rw[EK]at p;obtain⟨bV,V,bE⟩:=pJ p.own;rw[QZ]at bV;subst bV;have f:=d.r1.y 7;have C:=d.r1.y 8;have f7:=d.r1.A 7;have f8:=d.r1.A 8;have l:=d.r1.lt;go_upto_region 17 with fail;clear f f7 C f8 l;replace d:=(d.set 7 σ (Z (U+N))).set 8 σ (Z (O+N));replace p:=(p.set w.heap.size 7 ω (Z (U+N))).set w.heap.size 8 ω (Z (O+N));replace i:=(i.V (NA (AY vd (some w.heap.size)) 7 (Z (U+N))) (λg e=>by cases e;omega)).V (NA (AY _ (some w.heap.size)) 8 (Z (O+N))) (λg e=>by cases e;omega);generalize f:World.setCell (World.setCell _ _ _) _ _=C at d p i⊢;clear f V;have dD:=AB C.heap.size C;refine TU (6) (S:=λj=>Row j w.heap.size (sJ (n:Int) S L T H F R (U+N) (O+N) (yI v o.length B))/\j.cell? (yA g 0)=some (yI E t.length G)) κ (⟨d.r1.I dD.drew,(p.I dD.drew).row.y 0⟩) (λf=>?_)
      refine LU 0 (.agg (sK (n:Int) S L T H F R (U+N) (O+N) (yI v o.length B))) rfl (AS ⟨ρ,λw p=>by obtain⟨z0,z1⟩:=p;exact QI 39 _ rfl _ 0 rfl _ _ z0.range underlying39 rfl OQ⟩) f (NL 1 (zW g 0) rfl f (NL 2 (zW g 0) rfl f (LU 3 (zW g 0) rfl (AS ⟨ρ,λw p=>by obtain⟨z0,z1⟩:=p;have l:=DQ _ _ z1;go_simp⟩) f (NL 4 (yI E t.length G) rfl f (NL 5 (.agg (dK 0 (n:Int) S L T H F R (U+N) (O+N) (yI v o.length B) (yI E t.length G))) rfl f ?_)))));simp only[PS];refine PM (rs:=[6]) κ σ ?_;refine AllReadyT.last rfl (λKq cH=>?_);have S8:=d.I (AB C.heap.size C).drew;refine SN rfl 102 _ _ rfl (w.heap.size+1) 0 (dK 0 (n:Int) S L T H F R (U+N) (O+N) (yI v o.length B) (yI E t.length G)) rfl rfl (S8.r2.there rfl) RQ κ ?_
      refine cH.j _ _ trivial (λ_=>?_)
      try simp only[PS]
      refine SP κ ?_ _;have dd:=(AB C.heap.size C).drew;have cO:=QZ (q+U) t;obtain⟨_,V,bF⟩:=pJ (LZ p.own dd);have aM:=qq p.own
      have bE:=λg k=>(bF g k).1
      obtain⟨u,j⟩:=S8.fin ⟨0,(n:Int),S,L,T,H,F,R,U+N,O+N,o,MM (q+U) t⟩ v B E G bQ ⟨(i.I dd).q,V,ZO (N:=vb.heap.size) cQ (λg k=>bE g k)⟩ (λg k=>by have:=hg g k;omega) (λg k=>by have:=bE g k;omega);have z:=Y j;clear j;simp only[QD,QZ]at u z;generalize j:World.setCells _ _ _ _=y at u z⊢;clear j d
      try go_wp2
      refine UZ 4 results150 (a:=v) (c:=B) (b:=E) (e:=G) _ ?_ (by simp only[QD,QZ];exact u) ?_ z.j (by rw[cO]at aM⊢;exact aM)<;>rfl
  rotate_left 3
 rotate_left 4
 all_goals
  try simp only[PS]
  clear d
  try go_wp2
  refine UZ 4 results150 _ ?_ u ?_ z.j<;>rfl
section
theorem wH{a:List yZ}(h:a.map Value.string=[]):a.length=0:=by have:=BC List.length h;simpa using this
theorem nE{b:List (Int×yZ)}(h:MH b=[]):b.length=0:=by
 cases b with
 | nil=>rfl
 | cons a l=>simp[MH]at h
theorem OwL.other{c:xV}{o:Nat->Nat}{k:Nat}{a:xA}{b:List qD}(h:OwL w o k a cs)(j:OwnS c a b)(e:b≠[]->cs≠[]):OwL c o k a b :=vi j (λg d f=>h.gb (m:=1) (λi=>absurd i (e f)) (by rw[d];rfl))
theorem OwL.apart{o:Nat->Nat}{k f m c:Nat}{a b:xA}{d:List qD}(h:OwL w o k a cs)(l:OwL w o f b d)(n:k≠f)(p:cs=[]->m=0)(i:d=[]->c=0):blk a m=none\/blk b c=none\/blk a m≠blk b c:=by
 cases e:blk a m with
 | none=>exact .inl rfl
 | some g=>exact .inr (.inr λj=>n ((h.gb p e).symm.E (l.gb i j.symm)))
theorem Row.only{b:xV}{o:Nat->Nat}{K:Nat->Prop}{g:Nat}(r:Row w g cs)(a:Only o K w b)(c:¬K (o g)):Row b g cs:=SX r (a.block g r.lt c) (AC r.lt a.size)
section
variable (x:Wo) (q:Wp) (o:Nat->Nat) (w:xV)
end
end
