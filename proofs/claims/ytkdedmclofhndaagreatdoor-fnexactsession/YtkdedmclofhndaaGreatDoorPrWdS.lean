import Derived.Test.YtkdedmclofhndaaGreatDoorPrMvC
import Derived.Test.YtkdedmclofhndaaGreatDoorPrCmS
import Derived.Test.YtkdedmclofhndaaGreatDoorPrOpS
set_option maxHeartbeats 16000000
namespace Go.Proofs.YtkdedmclofhndaaGreatDoor
open Tryz
open Go.RowKit
set_option maxRecDepth 8000
set_option linter.all false
def NR(e:Ev)(a:xA)(c:Nat)(f:xA)(d:Nat):qD:=.agg #[Z e.K,yI a e.b.length c,Z e.cut,yI f e.fs.length d]
structure Ev.le(e:Ev):Prop where
 b:e.b.length<=1048576/\∀x∈e.b,x.1.size<=1048576/\x.2.1.size<=1048576
 f:e.fs.length<=1048576
theorem pu{w:xV}{d:Nat}{e:List Pr}{c:List OpT}{a b:xA}(h:OwnDn w e c a b)(k:∀g,blk a e.length=some g->d<=g)(l:∀g,blk b c.length=some g->d<=g):Dep w d w.heap.size (λW=>OwnDn W e c a b) :=⟨h,AA _,λj f i=>⟨(QF h.s RG k).keep j f i,(QF h.p ju l).keep j f i,h.ne⟩⟩
def nC(w d:xV)(r:Ending)(D:Dd)(u:Bool):Prop:=∃a c b e,r=yT (.tuple #[MD D a c b e,yR u])/\D.rs.length<=c/\OwnDn d D.rs D.ops a b/\(∀g,blk a D.rs.length=some g->w.heap.size<=g)/\(∀g,blk b D.ops.length=some g->w.heap.size<=g)/\yX w d
theorem YT:(prog.info? 102).map (·.size)=some 12:=κ
theorem Jy(x:Wo)(q:Wp)(f:xA)(o:List Int)(d:Nat)(F:Nat->Prop)(w:xV)(h:WoF x w F q)(r:x.le 1048576)(A:Ints w f o)(E:o.length<=1048576):Calls prog 92 #[LT x q,yI f o.length d] w λe a=>oN w a F e (x.pow o):=by
 have p:=Y (λa i b k3=>Hb q.a x.ss q.c q.a' x.ws q.c' f o d a i b k3 E r.l1 r.l2 r.s1 r.s2);obtain⟨c,s⟩:∃c,Hid (c=PL o x.ss x.ws):=⟨_,Y rfl⟩;rw[<-s.j]at p;unfold LM at p;have v:=Y A;clear A;unfold LT;go_enter func92,ntmps92;go_upto_region 1 with fail;generalize a:w.alloc _=H;obtain⟨g,m,t⟩:=LK a;clear a;generalize a:H.alloc _=B;obtain⟨j,y,l⟩:=LK a;clear a;rw[m]at l;have n:=g.E (j.J g.size);have hF:=(h.J (G:=λb=>(F b/\b<w.heap.size)\/w.heap.size+2<=b) (λb a k=>.inl ⟨k,a⟩)).I n;have a:=(t.I j).q;have u:=l.q;have D:w.heap.size+2<=B.heap.size:=ω
 clear g j t l m y h;have j:=a.y 1;have l:=a.y 2;have g:=a.lt;go_wp2_with fail;clear j l g;refine(p.j _ hF.h1.q hF.h2.q (v.j.I n)).J ?_;rintro I C ⟨j,i,l,m,rfl,z,y,g⟩
 have t:DepF C (λb=>(F b/\b<w.heap.size)\/w.heap.size+2<=b) (λW=>Strs W j c):=(ZA (QF (lo:=B.heap.size) z VJ y) (λb k _=>.inr ω)).map λW k=>k.strs
 replace hF:=hF.I g;replace a:=a.I g;replace u:=u.I g;replace n:=n.E (g.J n.size);clear z y g p v D;have z:=a.y 1;have D:=a.y 2;have G:=a.y 3;have p:=a.A 1;have v:=a.A 2;have y:=a.A 3;have g:=a.lt;go_upto_region 3 with fail;clear z p D v G y;refine AV ?_;refine SO rfl (.agg (sK 0 0 0 0 0 0 0 0 0 (yI none 0 0))) γ ?_;simp only[PS];refine mj rfl _ _ _ rfl (zW w.heap.size 4) γ ?_;simp only[PS];have G:=NA (NA (NA (AY C (some w.heap.size)) 1 (yI j c.length i)) 2 (yI l 0 m)) 3 (yR false);have R:=((a.set 1 σ (yI j c.length i)).set 2 σ (yI l 0 m)).set 3 σ (yR false);generalize p:World.setCell (World.setCell (World.setCell _ _ _) _ _) _ _=v at G R⊢;clear p g;have g:Row v w.heap.size [Z x.w,yI j c.length i,yI l 0 m,yR false,Z x.W,Z x.S,Z x.L,Z x.T,Z x.H,Z x.F,Z x.R,Z x.U,Z x.O,yI q.s x.rs.length q.cs,yI q.p x.P.length q.cp,yI q.t x.ts.length q.ct]:=R
 clear R;refine BU rfl 39 _ _ rfl w.heap.size 4 (sK 0 0 0 0 0 0 0 0 0 (yI none 0 0)) rfl rfl (Row.thereMid (pre:=[Z x.w,yI j c.length i,yI l 0 m,yR false]) (cs:=(sJ x.W x.S x.L x.T x.H x.F x.R x.U x.O (yI q.s x.rs.length q.cs))) (post:=[yI q.p x.P.length q.cp,yI q.t x.ts.length q.ct]) g rfl) em κ ?_
 try simp only[PS]
 replace G:=VL G (OU v w.heap.size 4 (sJ 0 0 0 0 0 0 0 0 0 (yI none 0 0)));have p:Row _ w.heap.size [Z x.w,yI j c.length i,yI l 0 m,yR false,Z 0,Z 0,Z 0,Z 0,Z 0,Z 0,Z 0,Z 0,Z 0,yI none 0 0,yI q.p x.P.length q.cp,yI q.t x.ts.length q.ct]:=Row.setsMid (pre:=[Z x.w,yI j c.length i,yI l 0 m,yR false]) (cs:=(sJ x.W x.S x.L x.T x.H x.F x.R x.U x.O (yI q.s x.rs.length q.cs))) (post:=[yI q.p x.P.length q.cp,yI q.t x.ts.length q.ct]) g (sJ 0 0 0 0 0 0 0 0 0 (yI none 0 0)) rfl;generalize y:v.setCells _ _ _=D at G p⊢;clear y g a;go_upto_region 4 with fail;refine AV ?_;refine AZ rfl 42 _ rfl w.heap.size 0 rfl _ _ p.range underlying42 rfl MP ?_;simp only[PS];have g:=u.V G (λe=>by injection e with e;omega);refine BU rfl 42 _ _ rfl (w.heap.size+1) 0 #[Z x.w,yI j c.length i,yI l 0 m,yR false,Z 0,Z 0,Z 0,Z 0,Z 0,Z 0,Z 0,Z 0,Z 0,yI none 0 0,yI q.p x.P.length q.cp,yI q.t x.ts.length q.ct] rfl rfl (g.there rfl) MP κ ?_
 try simp only[PS]
 have a:=OU D (w.heap.size+1) 0 [Z x.w,yI j c.length i,yI l 0 m,yR false,Z 0,Z 0,Z 0,Z 0,Z 0,Z 0,Z 0,Z 0,Z 0,yI none 0 0,yI q.p x.P.length q.cp,yI q.t x.ts.length q.ct];have y:=g.sets [Z x.w,yI j c.length i,yI l 0 m,yR false,Z 0,Z 0,Z 0,Z 0,Z 0,Z 0,Z 0,Z 0,Z 0,yI none 0 0,yI q.p x.P.length q.cp,yI q.t x.ts.length q.ct] rfl;generalize z:D.setCells _ _ _=J at a y⊢;clear z p g
 try go_wp2
 have p:¬((F w.heap.size/\w.heap.size<w.heap.size)\/w.heap.size+2<=w.heap.size):=ω
 have z:¬((F (w.heap.size+1)/\w.heap.size+1<w.heap.size)\/w.heap.size+2<=w.heap.size+1):=ω
 replace hF:=(hF.V G (λg e=>by cases e;exact p)).V a (λg e=>by cases e;exact z);replace t:=(t.V G (λg e=>by cases e;exact p)).V a (λg e=>by cases e;exact z);refine UK 4 42 results92 _ rfl [Z x.w,yI j c.length i,yI l 0 m,yR false,Z 0,Z 0,Z 0,Z 0,Z 0,Z 0,Z 0,Z 0,Z 0,yI none 0 0,yI q.p x.P.length q.cp,yI q.t x.ts.length q.ct] _ y underlying42 rfl MP rfl ⟨⟨j,i,l,m,none,0,q.p,q.cp,q.t,q.ct⟩,?_,WoF.J (F:=λb=>(F b/\b<w.heap.size)\/w.heap.size+2<=b) ⟨?_,UO (λW=>.inl rfl),UO (λW=>.inl rfl),hF.h4,hF.h5⟩ (λb _ k=>by rcases k with k|k;exact .inl k.1;exact .inr ω),?_⟩
 ·unfold LT Wo.pow
  rw[<-s.j];rfl
 ·unfold Wo.pow
  rw[<-s.j];exact t
 exact(n.E (MF G n.size (λx e=>by have e:=BP e;omega))).E (MF a (by have:=n.size;have:=G.size;omega) (λx e=>by have e:=BP e;omega))
theorem tz{w v f:xV}{D:Dd}{a b:xA}{c e:Nat}{X:Nat}{vs:List qD}(p:w.heap.size<=X/\X<v.heap.size)(h:yX w v)(o:TJ v f (yT (MD D a c b e)) D)(m:D.rs.length<=c)(n:OwnDn f D.rs D.ops a b)(i:∀g,blk a D.rs.length=some g->v.heap.size<=g)(j:∀g,blk b D.ops.length=some g->v.heap.size<=g)(l:yX v f)(u:Bool):nC w (f.setCells X 0 vs) (yT (.tuple #[MD D a c b e,yR u])) D u:=by
 have G:=OU f X 0 vs;have d:=(ZA (F:=λb=>v.heap.size<=b) (pu n i j) (λb k _=>k)).V G (λg e=>by cases e;omega);have:=h.size;exact⟨a,c,b,e,rfl,m,d.q,λg k=>by have:=i g k;omega,λg k=>by have:=j g k;omega,(h.E (l.J h.size)).E (MF G (AJ h.size l.size) (λx e=>by have e:=BP e;omega))⟩
theorem oM(x:Wo)(q:Wp)(e:Ev)(a:xA)(c:Nat)(f:xA)(d:Nat)(w:xV)(h:x.at w q)(I:x.le 1048576)(h2:Chs w a e.b)(he:e.le):Calls prog 63 #[LT x q,NR e a c f d] w λr k=>nC w k r (x.call e).1 (x.call e).2:=by
 have CO:=Y (λk t v=>tU q.a x.ss q.c q.a' x.ws q.c' x.w k t v I.l1 I.l2 I.s1 I.s2);have CC:=Y (λk t v=>Jt x.W x.S x.L x.T x.H x.F x.R x.U x.O q.s x.rs q.cs a e.b c k t I.l3 I.s3 v he.b.1 he.b.2);have CF:=Y (λk t=>Kb x.W x.S x.L x.T x.H x.F x.R x.U x.O q.s x.rs q.cs k t I.l3 I.s3);have CM:=Y (λk t=>Au x.W x.S x.L x.T x.H x.F x.R x.U x.O q.s x.rs q.cs k t I.l3 I.s3);unfold LM at CO;unfold MI at CC CF CM;obtain⟨⟨D,u⟩,F⟩:∃y,Hid (y=x.call e):=⟨_,Y rfl⟩;rw[<-F.j];have W:=Y h;have aT:=Y h2;clear h h2;unfold LT NR;go_enter func63,ntmps63;go_upto_region 1 with fail;generalize b:w.alloc _=v1;obtain⟨j,o,p⟩:=LK b;clear b;generalize g:v1.alloc _=v2;obtain⟨b,i,l⟩:=LK g;clear g;generalize n:v2.alloc _=s;obtain⟨g,r,m⟩:=LK n;clear n;rw[o]at l i;rw[i]at m;have H:=j.E ((b.E (g.J b.size)).J j.size);have Q:Row s w.heap.size (wL x q):=((p.I b).I g).q
 have J:Row s (w.heap.size+1) [Z e.K,yI a e.b.length c,Z e.cut,yI f e.fs.length d]:=(l.I g).q;have V:=m.q;clear j b g p l m o i r;have c0:=J.y 0;have cl:=J.lt
 by_cases t:e.K=1
 ·have b:(D,u)=(NM x.ss x.ws x.w,!x.up):=by rw[F.j];unfold Wo.call;rw[AI t]
  obtain⟨n,rfl⟩:=KQ b;rw[<-n]at CO;have kb:(e.K == 1)=true:=by simp[t]
  clear b n F t;go_upto_region 3 with fail;clear c0 cl;have E:=(AB s.heap.size s).drew;refine AN (S:=λk=>Row k w.heap.size (wL x q)/\Row k (w.heap.size+1) [Z e.K,yI a e.b.length c,Z e.cut,yI f e.fs.length d]) κ (⟨Q.I E,J.I E⟩) (λj=>?_);refine TK 0 (zW w.heap.size 1) rfl (AS ⟨ρ,λw g=>by obtain⟨i,m⟩:=g;have l:=i.lt;go_simp⟩) j (TK 1 (.agg #[yI q.a x.ss.length q.c,yI q.a' x.ws.length q.c']) rfl (AS ⟨ρ,λw g=>by obtain⟨i,m⟩:=g;have c:=i.y 1;have d:=i.y 2;have l:=i.lt;go_simp⟩) j (TK 2 (zW w.heap.size 0) rfl (AS ⟨ρ,λw g=>by obtain⟨i,m⟩:=g;have l:=i.lt;go_simp⟩) j (TK 3 (Z x.w) rfl (AS ⟨ρ,λw g=>by obtain⟨i,m⟩:=g;have c:=i.y 0;go_simp⟩) j (TK 5 (zW w.heap.size 3) rfl (AS ⟨ρ,λw g=>by obtain⟨i,m⟩:=g;have l:=i.lt;go_simp⟩) j (TK 6 (yR x.up) rfl (AS ⟨ρ,λw g=>by obtain⟨i,m⟩:=g;have c:=i.y 3;go_simp⟩) j (TY 7 (yR (!x.up)) rfl j ?_))))))
  simp only[PS];refine RD 4 rfl (λU z=>?_);obtain⟨T,n⟩:∃y,y=s.drew:=⟨_,rfl⟩;rw[<-n];have b:yX s T:=by show Below (s.heap.size) s T;rw[n];exact(AB _ _).drew
  have A:=H.E (b.J H.size);have B:=V.I b;have K:=Q.I b;have L:=J.I b;clear n b;refine LI ρ 83 #[.agg #[yI q.a x.ss.length q.c,yI q.a' x.ws.length q.c'],Z x.w] γ (CO.j _ (W.j.I A).h1 (W.j.I A).h2) ?_;rintro r5 R ⟨n,p,o,r,rfl,N,own,O,P,b⟩;refine⟨_,rfl,?_⟩;refine z.j _ _ (⟨K.I b,L.I b⟩) (λaL=>?_)
  try simp only[PS]
  refine RD 8 rfl (λU z=>?_);refine SN rfl 102 _ _ rfl (w.heap.size+1+1) 0 (dK D.C D.W D.S D.L D.T D.H D.F D.R D.U D.O (yI n D.rs.length p) (yI o D.ops.length r)) rfl rfl ((B.I b).there rfl) YT κ ?_;have G:=OU R (w.heap.size+1+1) 0 (dJ D.C D.W D.S D.L D.T D.H D.F D.R D.U D.O (yI n D.rs.length p) (yI o D.ops.length r));have C:=(B.I b).sets (dJ D.C D.W D.S D.L D.T D.H D.F D.R D.U D.O (yI n D.rs.length p) (yI o D.ops.length r)) rfl;refine z.j _ _ (⟨(K.I b).V G (λe=>by injection e with e;omega),(L.I b).V G (λe=>by injection e with e;omega)⟩) (λX=>?_)
  try simp only[PS]
  refine TY 9 (yR (!x.up)) rfl X ?_;simp only[PS];refine DN ?_;have M:=Y (tz (X:=w.heap.size+1+1) (vs:=(dJ D.C D.W D.S D.L D.T D.H D.F D.R D.U D.O (yI n D.rs.length p) (yI o D.ops.length r))) ⟨ω,B.lt⟩ A ⟨n,p,o,r,rfl,N,own,O,P,b⟩ N own O P b (!x.up));generalize S:R.setCells _ _ _=y6 at C M⊢;clear S
  try go_wp2
  exact mi 4 5 102 results63 _ rfl _ rfl (dJ D.C D.W D.S D.L D.T D.H D.F D.R D.U D.O (yI n D.rs.length p) (yI o D.ops.length r)) _ C underlying102 rfl YT rfl M.j
 by_cases v:e.K=2
 ·have b:(D,u)=(PJ x.W x.S x.L x.T x.H x.F x.R x.U x.O x.rs e.b,x.up):=by rw[F.j];unfold Wo.call;rw[AF t];rw[AI v]
  obtain⟨n,rfl⟩:=KQ b;rw[<-n]at CC;have kb:(e.K == 2)=true:=by simp[v]
  have aQ:(e.K == 1)=false:=by simp[t]
  clear b n F v;go_upto_region 5 with fail;clear c0 cl;have E:=(AB s.heap.size s).drew;refine AN (S:=λk=>Row k w.heap.size (wL x q)/\Row k (w.heap.size+1) [Z e.K,yI a e.b.length c,Z e.cut,yI f e.fs.length d]) κ (⟨Q.I E,J.I E⟩) (λj=>?_);refine TK 0 (zW w.heap.size 4) rfl (AS ⟨ρ,λw g=>by obtain⟨i,m⟩:=g;have l:=i.lt;go_simp⟩) j (TK 1 (.agg (sK x.W x.S x.L x.T x.H x.F x.R x.U x.O (yI q.s x.rs.length q.cs))) rfl (AS ⟨ρ,λw g=>by obtain⟨i,m⟩:=g;exact QI 39 _ rfl _ 4 rfl (sJ x.W x.S x.L x.T x.H x.F x.R x.U x.O (yI q.s x.rs.length q.cs)) _ (Row.rangeMid (pre:=[Z x.w,yI q.a x.ss.length q.c,yI q.a' x.ws.length q.c',yR x.up]) (cs:=(sJ x.W x.S x.L x.T x.H x.F x.R x.U x.O (yI q.s x.rs.length q.cs))) (post:=[yI q.p x.P.length q.cp,yI q.t x.ts.length q.ct]) i) underlying39 rfl em⟩) j (TK 2 (zW (w.heap.size+1) 1) rfl (AS ⟨ρ,λw g=>by obtain⟨i,m⟩:=g;have l:=m.lt;go_simp⟩) j (TK 3 (yI a e.b.length c) rfl (AS ⟨ρ,λw g=>by obtain⟨i,m⟩:=g;have c:=m.y 1;go_simp⟩) j (TK 5 (zW w.heap.size 3) rfl (AS ⟨ρ,λw g=>by obtain⟨i,m⟩:=g;have l:=i.lt;go_simp⟩) j (TK 6 (yR x.up) rfl (AS ⟨ρ,λw g=>by obtain⟨i,m⟩:=g;have c:=i.y 3;go_simp⟩) j ?_)))))
  simp only[PS];refine RD 4 rfl (λU z=>?_);obtain⟨T,n⟩:∃y,y=s.drew:=⟨_,rfl⟩;rw[<-n];have b:yX s T:=by show Below (s.heap.size) s T;rw[n];exact(AB _ _).drew
  have A:=H.E (b.J H.size);have B:=V.I b;have K:=Q.I b;have L:=J.I b;clear n b;refine LI ρ 94 #[.agg (sK x.W x.S x.L x.T x.H x.F x.R x.U x.O (yI q.s x.rs.length q.cs)),yI a e.b.length c] γ (CC.j _ (W.j.I A).h3 (aT.j.I A)) ?_;rintro r5 R ⟨n,p,o,r,rfl,N,own,O,P,b⟩;refine⟨_,rfl,?_⟩;refine z.j _ _ (⟨K.I b,L.I b⟩) (λaL=>?_)
  try simp only[PS]
  refine RD 7 rfl (λU z=>?_);refine SN rfl 102 _ _ rfl (w.heap.size+1+1) 0 (dK D.C D.W D.S D.L D.T D.H D.F D.R D.U D.O (yI n D.rs.length p) (yI o D.ops.length r)) rfl rfl ((B.I b).there rfl) YT κ ?_;have G:=OU R (w.heap.size+1+1) 0 (dJ D.C D.W D.S D.L D.T D.H D.F D.R D.U D.O (yI n D.rs.length p) (yI o D.ops.length r));have C:=(B.I b).sets (dJ D.C D.W D.S D.L D.T D.H D.F D.R D.U D.O (yI n D.rs.length p) (yI o D.ops.length r)) rfl;refine z.j _ _ (⟨(K.I b).V G (λe=>by injection e with e;omega),(L.I b).V G (λe=>by injection e with e;omega)⟩) (λX=>?_)
  try simp only[PS]
  refine TY 8 (yR (x.up)) rfl X ?_;simp only[PS];refine DN ?_;have M:=Y (tz (X:=w.heap.size+1+1) (vs:=(dJ D.C D.W D.S D.L D.T D.H D.F D.R D.U D.O (yI n D.rs.length p) (yI o D.ops.length r))) ⟨ω,B.lt⟩ A ⟨n,p,o,r,rfl,N,own,O,P,b⟩ N own O P b (x.up));generalize S:R.setCells _ _ _=y6 at C M⊢;clear S
  try go_wp2
  exact mi 4 5 102 results63 _ rfl _ rfl (dJ D.C D.W D.S D.L D.T D.H D.F D.R D.U D.O (yI n D.rs.length p) (yI o D.ops.length r)) _ C underlying102 rfl YT rfl M.j
 by_cases k3:e.K=3
 focus
  have b:(D,u)=(PZ x.W x.S x.L x.T x.H x.F x.R x.U x.O x.rs,x.up):=by rw[F.j];unfold Wo.call;rw[AF t];rw[AF v];rw[AI k3]
  obtain⟨n,rfl⟩:=KQ b;rw[<-n]at CF;have kb:(e.K == 3)=true:=by simp[k3]
  have aQ:(e.K == 1)=false:=by simp[t]
  have aS:(e.K == 2)=false:=by simp[v]
  clear b n F k3;go_upto_region 7 with fail;clear c0 cl;have E:=(AB s.heap.size s).drew;refine AN (S:=λk=>Row k w.heap.size (wL x q)/\Row k (w.heap.size+1) [Z e.K,yI a e.b.length c,Z e.cut,yI f e.fs.length d]) κ (⟨Q.I E,J.I E⟩) (λj=>?_);refine TK 0 (zW w.heap.size 4) rfl (AS ⟨ρ,λw g=>by obtain⟨i,m⟩:=g;have l:=i.lt;go_simp⟩) j (TK 1 (.agg (sK x.W x.S x.L x.T x.H x.F x.R x.U x.O (yI q.s x.rs.length q.cs))) rfl (AS ⟨ρ,λw g=>by obtain⟨i,m⟩:=g;exact QI 39 _ rfl _ 4 rfl (sJ x.W x.S x.L x.T x.H x.F x.R x.U x.O (yI q.s x.rs.length q.cs)) _ (Row.rangeMid (pre:=[Z x.w,yI q.a x.ss.length q.c,yI q.a' x.ws.length q.c',yR x.up]) (cs:=(sJ x.W x.S x.L x.T x.H x.F x.R x.U x.O (yI q.s x.rs.length q.cs))) (post:=[yI q.p x.P.length q.cp,yI q.t x.ts.length q.ct]) i) underlying39 rfl em⟩) j (TK 3 (zW w.heap.size 3) rfl (AS ⟨ρ,λw g=>by obtain⟨i,m⟩:=g;have l:=i.lt;go_simp⟩) j (TK 4 (yR x.up) rfl (AS ⟨ρ,λw g=>by obtain⟨i,m⟩:=g;have c:=i.y 3;go_simp⟩) j ?_)))
  simp only[PS];refine RD 2 rfl (λU z=>?_);obtain⟨T,n⟩:∃y,y=s.drew:=⟨_,rfl⟩;rw[<-n];have b:yX s T:=by show Below (s.heap.size) s T;rw[n];exact(AB _ _).drew
  have A:=H.E (b.J H.size);have B:=V.I b;have K:=Q.I b;have L:=J.I b;clear n b;refine LI ρ 95 #[.agg (sK x.W x.S x.L x.T x.H x.F x.R x.U x.O (yI q.s x.rs.length q.cs))] γ (CF.j _ (W.j.I A).h3) ?_
 rotate_left
 by_cases k4:e.K=4
 focus
  have b:(D,u)=(OY x.W x.S x.L x.T x.H x.F x.R x.U x.O x.rs,x.up):=by rw[F.j];unfold Wo.call;rw[AF t];rw[AF v];rw[AF k3];rw[AI k4]
  obtain⟨n,rfl⟩:=KQ b;rw[<-n]at CM;have kb:(e.K == 4)=true:=by simp[k4]
  have aQ:(e.K == 1)=false:=by simp[t]
  have aS:(e.K == 2)=false:=by simp[v]
  have aU:(e.K == 3)=false:=by simp[k3]
  clear b n F k4;go_upto_region 9 with fail;clear c0 cl;have E:=(AB s.heap.size s).drew;refine AN (S:=λk=>Row k w.heap.size (wL x q)/\Row k (w.heap.size+1) [Z e.K,yI a e.b.length c,Z e.cut,yI f e.fs.length d]) κ (⟨Q.I E,J.I E⟩) (λj=>?_);refine TK 0 (zW w.heap.size 4) rfl (AS ⟨ρ,λw g=>by obtain⟨i,m⟩:=g;have l:=i.lt;go_simp⟩) j (TK 1 (.agg (sK x.W x.S x.L x.T x.H x.F x.R x.U x.O (yI q.s x.rs.length q.cs))) rfl (AS ⟨ρ,λw g=>by obtain⟨i,m⟩:=g;exact QI 39 _ rfl _ 4 rfl (sJ x.W x.S x.L x.T x.H x.F x.R x.U x.O (yI q.s x.rs.length q.cs)) _ (Row.rangeMid (pre:=[Z x.w,yI q.a x.ss.length q.c,yI q.a' x.ws.length q.c',yR x.up]) (cs:=(sJ x.W x.S x.L x.T x.H x.F x.R x.U x.O (yI q.s x.rs.length q.cs))) (post:=[yI q.p x.P.length q.cp,yI q.t x.ts.length q.ct]) i) underlying39 rfl em⟩) j (TK 3 (zW w.heap.size 3) rfl (AS ⟨ρ,λw g=>by obtain⟨i,m⟩:=g;have l:=i.lt;go_simp⟩) j (TK 4 (yR x.up) rfl (AS ⟨ρ,λw g=>by obtain⟨i,m⟩:=g;have c:=i.y 3;go_simp⟩) j ?_)))
  simp only[PS];refine RD 2 rfl (λU z=>?_);obtain⟨T,n⟩:∃y,y=s.drew:=⟨_,rfl⟩;rw[<-n];have b:yX s T:=by show Below (s.heap.size) s T;rw[n];exact(AB _ _).drew
  have A:=H.E (b.J H.size);have B:=V.I b;have K:=Q.I b;have L:=J.I b;clear n b;refine LI ρ 96 #[.agg (sK x.W x.S x.L x.T x.H x.F x.R x.U x.O (yI q.s x.rs.length q.cs))] γ (CM.j _ (W.j.I A).h3) ?_
 rotate_left
 obtain⟨rfl,rfl⟩:=KQ (show(D,u)=(LJ 0,false) by rw[F.j];unfold Wo.call;rw[AF t,AF v,AF k3,AF k4]);have aQ:(e.K == 1)=false:=by simp[t]
 have aS:(e.K == 2)=false:=by simp[v]
 have aU:(e.K == 3)=false:=by simp[k3]
 have y:(e.K == 4)=false:=by simp[k4]
 go_upto_region 10 with fail;refine AV ?_;refine SO rfl (.agg (dK 0 0 0 0 0 0 0 0 0 0 (yI none 0 0) (yI none 0 0))) γ ?_;simp only[PS];refine BU rfl 102 _ _ rfl (w.heap.size+1+1) 0 (dK 0 0 0 0 0 0 0 0 0 0 (yI none 0 0) (yI none 0 0)) rfl rfl (V.there rfl) YT κ ?_
 try simp only[PS]
 have G:=OU s (w.heap.size+1+1) 0 (dJ 0 0 0 0 0 0 0 0 0 0 (yI none 0 0) (yI none 0 0));have C:=V.sets (dJ 0 0 0 0 0 0 0 0 0 0 (yI none 0 0) (yI none 0 0)) rfl;generalize S:s.setCells _ _ _=y6 at G C⊢;clear S
 try go_wp2
 exact mi 4 5 102 results63 _ rfl _ rfl (dJ 0 0 0 0 0 0 0 0 0 0 (yI none 0 0) (yI none 0 0)) _ C underlying102 rfl YT rfl ⟨none,0,none,0,rfl,AA _,⟨.inl rfl,.inl rfl,.inl rfl⟩,λg k=>(by cases k),λg k=>(by cases k),H.E (MF G H.size (λx e=>by have e:=BP e;omega))⟩
 all_goals
  rintro r5 R ⟨n,p,o,r,rfl,N,own,O,P,b⟩;refine⟨_,rfl,?_⟩;refine z.j _ _ (⟨K.I b,L.I b⟩) (λaL=>?_)
  try simp only[PS]
  refine RD 5 rfl (λU z=>?_);refine SN rfl 102 _ _ rfl (w.heap.size+1+1) 0 (dK D.C D.W D.S D.L D.T D.H D.F D.R D.U D.O (yI n D.rs.length p) (yI o D.ops.length r)) rfl rfl ((B.I b).there rfl) YT κ ?_;have G:=OU R (w.heap.size+1+1) 0 (dJ D.C D.W D.S D.L D.T D.H D.F D.R D.U D.O (yI n D.rs.length p) (yI o D.ops.length r));have C:=(B.I b).sets (dJ D.C D.W D.S D.L D.T D.H D.F D.R D.U D.O (yI n D.rs.length p) (yI o D.ops.length r)) rfl;refine z.j _ _ (⟨(K.I b).V G (λe=>by injection e with e;omega),(L.I b).V G (λe=>by injection e with e;omega)⟩) (λX=>?_)
  try simp only[PS]
  refine TY 6 (yR (x.up)) rfl X ?_;simp only[PS];refine DN ?_;have M:=Y (tz (X:=w.heap.size+1+1) (vs:=(dJ D.C D.W D.S D.L D.T D.H D.F D.R D.U D.O (yI n D.rs.length p) (yI o D.ops.length r))) ⟨ω,B.lt⟩ A ⟨n,p,o,r,rfl,N,own,O,P,b⟩ N own O P b (x.up));generalize S:R.setCells _ _ _=y6 at C M⊢;clear S
  try go_wp2
  exact mi 4 5 102 results63 _ rfl _ rfl (dJ D.C D.W D.S D.L D.T D.H D.F D.R D.U D.O (yI n D.rs.length p) (yI o D.ops.length r)) _ C underlying102 rfl YT rfl M.j
