import Derived.Test.YteflhojcomcfaaaGreatDoorPrMvC
import Derived.Test.YteflhojcomcfaaaGreatDoorPrCmS
import Derived.Test.YteflhojcomcfaaaGreatDoorPrOpS
set_option maxHeartbeats 16000000
namespace Go.Proofs.YteflhojcomcfaaaGreatDoor
open Tryz
open Go.RowKit
set_option maxRecDepth 8000
set_option linter.all false
def OQ(e:Ev)(a:Q5)(c:Nat)(f:Q5)(d:Nat):Ra:=.agg #[Z e.K,Y a e.b.length c,Z e.cut,Y f e.fs.length d]
structure Ev.le(e:Ev):Prop where
 b:e.b.length<=1048576/\∀x∈e.b,x.1.size<=1048576/\x.2.1.size<=1048576
 f:e.fs.length<=1048576
theorem vj{w:Q9}{d:Nat}{e:List Pr}{c:List OpT}{a b:Q5}(h:OwnDn w e c a b)(k:∀g,blk a e.length=some g->d<=g)(l:∀g,blk b c.length=some g->d<=g):Dep w d w.heap.size (λW=>OwnDn W e c a b) :=⟨h,C,λj f i=>⟨(RX h.s TS k).keep j f i,(RX h.p qy l).keep j f i,h.ne⟩⟩
def qH(w d:Q9)(r:Ending)(D:Dd)(u:Bool):Prop:=∃a c b e,r=Q2 (.tuple #[MT D a c b e,Q1 u])/\D.rs.length<=c/\OwnDn d D.rs D.ops a b/\(∀g,blk a D.rs.length=some g->w.heap.size<=g)/\(∀g,blk b D.ops.length=some g->w.heap.size<=g)/\Q3 w d
theorem fk:(prog.info? 115).map (·.size)=some 12:=h
theorem Lv(a:Wo)(q:Wp)(f:Q5)(t:List Int)(c:Nat)(F:Nat->Prop)(w:Q9)(i:WoF a w F q)(y:a.le 1048576)(H:Ints w f t)(M:t.length<=1048576):Calls prog 116 #[MD a q,Y f t.length c] w λe b=>sI w b F e (a.pow t):=by
 have v:=LE (λb m g k3=>Jb q.a a.ss q.c q.a' a.ws q.c' f t c b m g k3 M y.l1 y.l2 y.s1 y.s2);obtain⟨o,A⟩:=x (QY t a.ss a.ws);rw[<-A.j]at v;unfold LR at v;have D:=LE H;clear H;unfold MD;go_enter func116,ntmps116;go_upto_region 1 with fail;generalize b:w.alloc _=N;obtain⟨n,u,B⟩:=LP b;clear b;generalize b:N.alloc _=J;obtain⟨p,E,r⟩:=LP b;clear b;rw[u]at r;have s:=n.E (p.J n.size);have hF:=(i.J (G:=λb=>(F b/\b<w.heap.size)\/w.heap.size+2<=b) (λb g k=>.inl ⟨k,g⟩)).I s;have g:=(B.I p).q;have C:=r.q;have I:w.heap.size+2<=J.heap.size:=d
 clear n p B r u E i;have n:=g.y 1;have p:=g.y 2;have u:=g.lt;go_wp2_with fail;clear n p u;refine(v.j _ hF.h1.q hF.h2.q (D.j.I s)).J ?_;rintro O K ⟨n,m,p,r,rfl,G,E,u⟩
 have B:DepF K (λb=>(F b/\b<w.heap.size)\/w.heap.size+2<=b) (λW=>Strs W n o):=(gd (RX (lo:=J.heap.size) G YP E) (λb k _=>.inr d)).map λW k=>k.strs
 replace hF:=hF.I u;replace g:=g.I u;replace C:=C.I u;replace s:=s.E (u.J s.size);clear G E u v D I;have G:=g.y 1;have I:=g.y 2;have L:=g.y 3;have v:=g.A 1;have D:=g.A 2;have E:=g.A 3;have u:=g.lt;go_upto_region 3 with fail;clear G v I D L E;refine AX ?_;refine VD z (.agg (sK 0 0 0 0 0 0 0 0 0 (Y none 0 0))) l ?_;simp only[PS];refine tj z _ _ _ z (Dr w.heap.size 4) l ?_;simp only[PS];have G:=NZ (NZ (NZ (BC K (some w.heap.size)) 1 (Y n o.length m)) 2 (Y p 0 r)) 3 (Q1 false);have R:=((g.set 1 j (Y n o.length m)).set 2 j (Y p 0 r)).set 3 j (Q1 false);generalize v:World.setCell (World.setCell (World.setCell _ _ _) _ _) _ _=D at G R⊢;clear v u;have u:Row D w.heap.size [Z a.w,Y n o.length m,Y p 0 r,Q1 false,Z a.W,Z a.S,Z a.L,Z a.T,Z a.H,Z a.F,Z a.R,Z a.U,Z a.O,Y q.s a.rs.length q.cs,Y q.p a.P.length q.cp,Y q.t a.ts.length q.ct]:=R
 clear R;refine BV z 44 _ _ z w.heap.size 4 (sK 0 0 0 0 0 0 0 0 0 (Y none 0 0)) z z (Row.thereMid (pre:=[Z a.w,Y n o.length m,Y p 0 r,Q1 false]) (cs:=(sJ a.W a.S a.L a.T a.H a.F a.R a.U a.O (Y q.s a.rs.length q.cs))) (post:=[Y q.p a.P.length q.cp,Y q.t a.ts.length q.ct]) u z) lj h ?_
 try simp only[PS]
 replace G:=OE G (QF D w.heap.size 4 (sJ 0 0 0 0 0 0 0 0 0 (Y none 0 0)));have v:Row _ w.heap.size [Z a.w,Y n o.length m,Y p 0 r,Q1 false,Z 0,Z 0,Z 0,Z 0,Z 0,Z 0,Z 0,Z 0,Z 0,Y none 0 0,Y q.p a.P.length q.cp,Y q.t a.ts.length q.ct]:=Row.setsMid (pre:=[Z a.w,Y n o.length m,Y p 0 r,Q1 false]) (cs:=(sJ a.W a.S a.L a.T a.H a.F a.R a.U a.O (Y q.s a.rs.length q.cs))) (post:=[Y q.p a.P.length q.cp,Y q.t a.ts.length q.ct]) u (sJ 0 0 0 0 0 0 0 0 0 (Y none 0 0)) z;generalize E:D.setCells _ _ _=L at G v⊢;clear E u g;go_upto_region 4 with fail;refine AX ?_;refine BE z 47 _ z w.heap.size 0 z _ _ v.range underlying47 z NH ?_;simp only[PS];have g:=C.V G (λe=>by injection e with e;omega);refine BV z 47 _ _ z (w.heap.size+1) 0 #[Z a.w,Y n o.length m,Y p 0 r,Q1 false,Z 0,Z 0,Z 0,Z 0,Z 0,Z 0,Z 0,Z 0,Z 0,Y none 0 0,Y q.p a.P.length q.cp,Y q.t a.ts.length q.ct] z z (g.there z) NH h ?_
 try simp only[PS]
 have u:=QF L (w.heap.size+1) 0 [Z a.w,Y n o.length m,Y p 0 r,Q1 false,Z 0,Z 0,Z 0,Z 0,Z 0,Z 0,Z 0,Z 0,Z 0,Y none 0 0,Y q.p a.P.length q.cp,Y q.t a.ts.length q.ct];have E:=g.sets [Z a.w,Y n o.length m,Y p 0 r,Q1 false,Z 0,Z 0,Z 0,Z 0,Z 0,Z 0,Z 0,Z 0,Z 0,Y none 0 0,Y q.p a.P.length q.cp,Y q.t a.ts.length q.ct] z;generalize I:L.setCells _ _ _=P at u E⊢;clear I v g
 try go_wp2
 have v:¬((F w.heap.size/\w.heap.size<w.heap.size)\/w.heap.size+2<=w.heap.size):=d
 have I:¬((F (w.heap.size+1)/\w.heap.size+1<w.heap.size)\/w.heap.size+2<=w.heap.size+1):=d
 replace hF:=(hF.V G (λg e=>by cases e;exact v)).V u (λg e=>by cases e;exact I);replace B:=(B.V G (λg e=>by cases e;exact v)).V u (λg e=>by cases e;exact I);refine XM 4 47 results116 _ z [Z a.w,Y n o.length m,Y p 0 r,Q1 false,Z 0,Z 0,Z 0,Z 0,Z 0,Z 0,Z 0,Z 0,Z 0,Y none 0 0,Y q.p a.P.length q.cp,Y q.t a.ts.length q.ct] _ E underlying47 z NH z ⟨⟨n,m,p,r,none,0,q.p,q.cp,q.t,q.ct⟩,?_,WoF.J (F:=λb=>(F b/\b<w.heap.size)\/w.heap.size+2<=b) ⟨?_,XP (λW=>.inl z),XP (λW=>.inl z),hF.h4,hF.h5⟩ (λb _ k=>by rcases k with k|k;exact .inl k.1;exact .inr d),?_⟩
 .unfold MD Wo.pow
  rw[<-A.j];rfl
 .unfold Wo.pow
  rw[<-A.j];exact B
 exact(s.E (MU G s.size (λa e=>by have e:=BQ e;omega))).E (MU u (by have:=s.size;have:=G.size;omega) (λa e=>by have e:=BQ e;omega))
theorem zo{w v f:Q9}{D:Dd}{a b:Q5}{c e:Nat}{X:Nat}{vs:List Ra}(p:w.heap.size<=X/\X<v.heap.size)(h:Q3 w v)(o:VZ v f (Q2 (MT D a c b e)) D)(m:D.rs.length<=c)(n:OwnDn f D.rs D.ops a b)(i:∀g,blk a D.rs.length=some g->v.heap.size<=g)(j:∀g,blk b D.ops.length=some g->v.heap.size<=g)(l:Q3 v f)(u:Bool):qH w (f.setCells X 0 vs) (Q2 (.tuple #[MT D a c b e,Q1 u])) D u:=by
 have G:=QF f X 0 vs;have d:=(gd (F:=λb=>v.heap.size<=b) (vj n i j) (λb k _=>k)).V G (λg e=>by cases e;omega);have:=h.size;exact⟨a,c,b,e,z,m,d.q,λg k=>by have:=i g k;omega,λg k=>by have:=j g k;omega,(h.E (l.J h.size)).E (MU G (AJ h.size l.size) (λx e=>by have e:=BQ e;omega))⟩
theorem sF(x:Wo)(q:Wp)(e:Ev)(a:Q5)(c:Nat)(o:Q5)(n:Nat)(w:Q9)(s:x.at w q)(S:x.le 1048576)(h2:Chs w a e.b)(he:e.le):Calls prog 79 #[MD x q,OQ e a c o n] w λr v=>qH w v r (x.call e).1 (x.call e).2:=by
 have CO:=LE (λv J K=>wY q.a x.ss q.c q.a' x.ws q.c' x.w v J K S.l1 S.l2 S.s1 S.s2);have CC:=LE (λv J K=>Lq x.W x.S x.L x.T x.H x.F x.R x.U x.O q.s x.rs q.cs a e.b c v J S.l3 S.s3 K he.b.1 he.b.2);have CF:=LE (λv J=>Mc x.W x.S x.L x.T x.H x.F x.R x.U x.O q.s x.rs q.cs v J S.l3 S.s3);have CM:=LE (λv J=>De x.W x.S x.L x.T x.H x.F x.R x.U x.O q.s x.rs q.cs v J S.l3 S.s3);unfold LR at CO;unfold NA at CC CF CM;obtain⟨⟨i,p⟩,Q⟩:∃y,Hid (y=x.call e):=⟨_,LE z⟩;rw[<-Q.j];have HH:=LE s;have aT:=LE h2;clear s h2;unfold MD OQ;go_enter func79,ntmps79;go_upto_region 1 with fail;generalize g:w.alloc _=v1;obtain⟨m,B,E⟩:=LP g;clear g;generalize j:v1.alloc _=v2;obtain⟨g,k,r⟩:=LP j;clear j;generalize y:v2.alloc _=I;obtain⟨j,F,t⟩:=LP y;clear y;rw[B]at r k;rw[k]at t;have R:=m.E ((g.E (j.J g.size)).J m.size);have u:Row I w.heap.size (wL x q):=((E.I g).I j).q
 have T:Row I (w.heap.size+1) [Z e.K,Y a e.b.length c,Z e.cut,Y o e.fs.length n]:=(r.I j).q;have r4:=t.q;clear m g j E r t B k F;have c0:=T.y 0;have cl:=T.lt
 by_cases J:e.K=1
 .have g:(i,p)=(OL x.ss x.ws x.w,!x.up):=by rw[Q.j];unfold Wo.call;rw[AI J]
  obtain⟨j,rfl⟩:=KQ g;rw[<-j]at CO;have kb:(e.K == 1)=true:=by simp[J]
  clear g j Q J;go_upto_region 3 with fail;clear c0 cl;have P:=(@D I.heap.size I).drew;refine AN (S:=λv=>Row v w.heap.size (wL x q)/\Row v (w.heap.size+1) [Z e.K,Y a e.b.length c,Z e.cut,Y o e.fs.length n]) κ (⟨u.I P,T.I P⟩) (λt=>?_);refine TK 0 (Dr w.heap.size 1) z (b ⟨f,λw k=>by obtain⟨r,y⟩:=k;have m:=r.lt;go_simp⟩) t (TK 1 (.agg #[Y q.a x.ss.length q.c,Y q.a' x.ws.length q.c']) z (b ⟨f,λw k=>by obtain⟨r,y⟩:=k;have c:=r.y 1;have n:=r.y 2;have m:=r.lt;go_simp⟩) t (TK 2 (Dr w.heap.size 0) z (b ⟨f,λw k=>by obtain⟨r,y⟩:=k;have m:=r.lt;go_simp⟩) t (TK 3 (Z x.w) z (b ⟨f,λw k=>by obtain⟨r,y⟩:=k;have c:=r.y 0;go_simp⟩) t (TK 5 (Dr w.heap.size 3) z (b ⟨f,λw k=>by obtain⟨r,y⟩:=k;have m:=r.lt;go_simp⟩) t (TK 6 (Q1 x.up) z (b ⟨f,λw k=>by obtain⟨r,y⟩:=k;have c:=r.y 3;go_simp⟩) t (TY 7 (Q1 (!x.up)) z t ?_))))))
  simp only[PS];refine RD 4 z (λKq L=>?_);obtain⟨h,j⟩:=nMz I.drew;rw[<-j];have g:Q3 I h:=by rw[j];exact(D).drew
  have M:=R.E (g.J R.size);have N:=r4.I g;have U:=u.I g;have V:=T.I g;clear j g;refine LM f 107 #[.agg #[Y q.a x.ss.length q.c,Y q.a' x.ws.length q.c'],Z x.w] γ (CO.j _ (HH.j.I M).h1 (HH.j.I M).h2) ?_;rintro r5 G ⟨B,F,E,H,rfl,X,own,C,d,g⟩;refine⟨_,z,?_⟩;refine L.j _ _ (⟨U.I g,V.I g⟩) (λaL=>?_)
  try simp only[PS]
  refine RD 8 z (λKq L=>?_);refine VC z 115 _ _ z (w.heap.size+1+1) 0 (dK i.C i.W i.S i.L i.T i.H i.F i.R i.U i.O (Y B i.rs.length F) (Y E i.ops.length H)) z z ((N.I g).there z) fk κ ?_;have j:=QF G (w.heap.size+1+1) 0 (dJ i.C i.W i.S i.L i.T i.H i.F i.R i.U i.O (Y B i.rs.length F) (Y E i.ops.length H));have O:=(N.I g).sets (dJ i.C i.W i.S i.L i.T i.H i.F i.R i.U i.O (Y B i.rs.length F) (Y E i.ops.length H)) z;refine L.j _ _ (⟨(U.I g).V j (λe=>by injection e with e;omega),(V.I g).V j (λe=>by injection e with e;omega)⟩) (λaF=>?_)
  try simp only[PS]
  refine TY 9 (Q1 (!x.up)) z aF ?_;simp only[PS];refine DN ?_;have W:=LE (zo (X:=w.heap.size+1+1) (vs:=(dJ i.C i.W i.S i.L i.T i.H i.F i.R i.U i.O (Y B i.rs.length F) (Y E i.ops.length H))) ⟨ω,N.lt⟩ M ⟨B,F,E,H,z,X,own,C,d,g⟩ X own C d g (!x.up));generalize l:G.setCells _ _ _=y6 at O W⊢;clear l
  try go_wp2
  exact ti 4 5 115 results79 _ z _ z (dJ i.C i.W i.S i.L i.T i.H i.F i.R i.U i.O (Y B i.rs.length F) (Y E i.ops.length H)) _ O underlying115 z fk z W.j
 by_cases K:e.K=2
 .have g:(i,p)=(QV x.W x.S x.L x.T x.H x.F x.R x.U x.O x.rs e.b,x.up):=by rw[Q.j];unfold Wo.call;rw[A J];rw[AI K]
  obtain⟨j,rfl⟩:=KQ g;rw[<-j]at CC;have kb:(e.K == 2)=true:=by simp[K]
  have aQ:(e.K == 1)=false:=by simp[J]
  clear g j Q K;go_upto_region 5 with fail;clear c0 cl;have P:=(@D I.heap.size I).drew;refine AN (S:=λv=>Row v w.heap.size (wL x q)/\Row v (w.heap.size+1) [Z e.K,Y a e.b.length c,Z e.cut,Y o e.fs.length n]) κ (⟨u.I P,T.I P⟩) (λt=>?_);refine TK 0 (Dr w.heap.size 4) z (b ⟨f,λw k=>by obtain⟨r,y⟩:=k;have m:=r.lt;go_simp⟩) t (TK 1 (.agg (sK x.W x.S x.L x.T x.H x.F x.R x.U x.O (Y q.s x.rs.length q.cs))) z (b ⟨f,λw k=>by obtain⟨r,y⟩:=k;exact SA 44 _ z _ 4 z (sJ x.W x.S x.L x.T x.H x.F x.R x.U x.O (Y q.s x.rs.length q.cs)) _ (Row.rangeMid (pre:=[Z x.w,Y q.a x.ss.length q.c,Y q.a' x.ws.length q.c',Q1 x.up]) (cs:=(sJ x.W x.S x.L x.T x.H x.F x.R x.U x.O (Y q.s x.rs.length q.cs))) (post:=[Y q.p x.P.length q.cp,Y q.t x.ts.length q.ct]) r) underlying44 z lj⟩) t (TK 2 (Dr (w.heap.size+1) 1) z (b ⟨f,λw k=>by obtain⟨r,y⟩:=k;have m:=y.lt;go_simp⟩) t (TK 3 (Y a e.b.length c) z (b ⟨f,λw k=>by obtain⟨r,y⟩:=k;have c:=y.y 1;go_simp⟩) t (TK 5 (Dr w.heap.size 3) z (b ⟨f,λw k=>by obtain⟨r,y⟩:=k;have m:=r.lt;go_simp⟩) t (TK 6 (Q1 x.up) z (b ⟨f,λw k=>by obtain⟨r,y⟩:=k;have c:=r.y 3;go_simp⟩) t ?_)))))
  simp only[PS];refine RD 4 z (λKq L=>?_);obtain⟨h,j⟩:=nMz I.drew;rw[<-j];have g:Q3 I h:=by rw[j];exact(D).drew
  have M:=R.E (g.J R.size);have N:=r4.I g;have U:=u.I g;have V:=T.I g;clear j g;refine LM f 118 #[.agg (sK x.W x.S x.L x.T x.H x.F x.R x.U x.O (Y q.s x.rs.length q.cs)),Y a e.b.length c] γ (CC.j _ (HH.j.I M).h3 (aT.j.I M)) ?_;rintro r5 G ⟨B,F,E,H,rfl,X,own,C,d,g⟩;refine⟨_,z,?_⟩;refine L.j _ _ (⟨U.I g,V.I g⟩) (λaL=>?_)
  try simp only[PS]
  refine RD 7 z (λKq L=>?_);refine VC z 115 _ _ z (w.heap.size+1+1) 0 (dK i.C i.W i.S i.L i.T i.H i.F i.R i.U i.O (Y B i.rs.length F) (Y E i.ops.length H)) z z ((N.I g).there z) fk κ ?_;have j:=QF G (w.heap.size+1+1) 0 (dJ i.C i.W i.S i.L i.T i.H i.F i.R i.U i.O (Y B i.rs.length F) (Y E i.ops.length H));have O:=(N.I g).sets (dJ i.C i.W i.S i.L i.T i.H i.F i.R i.U i.O (Y B i.rs.length F) (Y E i.ops.length H)) z;refine L.j _ _ (⟨(U.I g).V j (λe=>by injection e with e;omega),(V.I g).V j (λe=>by injection e with e;omega)⟩) (λaF=>?_)
  try simp only[PS]
  refine TY 8 (Q1 (x.up)) z aF ?_;simp only[PS];refine DN ?_;have W:=LE (zo (X:=w.heap.size+1+1) (vs:=(dJ i.C i.W i.S i.L i.T i.H i.F i.R i.U i.O (Y B i.rs.length F) (Y E i.ops.length H))) ⟨ω,N.lt⟩ M ⟨B,F,E,H,z,X,own,C,d,g⟩ X own C d g (x.up));generalize l:G.setCells _ _ _=y6 at O W⊢;clear l
  try go_wp2
  exact ti 4 5 115 results79 _ z _ z (dJ i.C i.W i.S i.L i.T i.H i.F i.R i.U i.O (Y B i.rs.length F) (Y E i.ops.length H)) _ O underlying115 z fk z W.j
 by_cases k3:e.K=3
 focus
  have g:(i,p)=(RM x.W x.S x.L x.T x.H x.F x.R x.U x.O x.rs,x.up):=by rw[Q.j];unfold Wo.call;rw[A J];rw[A K];rw[AI k3]
  obtain⟨j,rfl⟩:=KQ g;rw[<-j]at CF;have kb:(e.K == 3)=true:=by simp[k3]
  have aQ:(e.K == 1)=false:=by simp[J]
  have aS:(e.K == 2)=false:=by simp[K]
  clear g j Q k3;go_upto_region 7 with fail;clear c0 cl;have P:=(@D I.heap.size I).drew;refine AN (S:=λv=>Row v w.heap.size (wL x q)/\Row v (w.heap.size+1) [Z e.K,Y a e.b.length c,Z e.cut,Y o e.fs.length n]) κ (⟨u.I P,T.I P⟩) (λt=>?_);refine TK 0 (Dr w.heap.size 4) z (b ⟨f,λw k=>by obtain⟨r,y⟩:=k;have m:=r.lt;go_simp⟩) t (TK 1 (.agg (sK x.W x.S x.L x.T x.H x.F x.R x.U x.O (Y q.s x.rs.length q.cs))) z (b ⟨f,λw k=>by obtain⟨r,y⟩:=k;exact SA 44 _ z _ 4 z (sJ x.W x.S x.L x.T x.H x.F x.R x.U x.O (Y q.s x.rs.length q.cs)) _ (Row.rangeMid (pre:=[Z x.w,Y q.a x.ss.length q.c,Y q.a' x.ws.length q.c',Q1 x.up]) (cs:=(sJ x.W x.S x.L x.T x.H x.F x.R x.U x.O (Y q.s x.rs.length q.cs))) (post:=[Y q.p x.P.length q.cp,Y q.t x.ts.length q.ct]) r) underlying44 z lj⟩) t (TK 3 (Dr w.heap.size 3) z (b ⟨f,λw k=>by obtain⟨r,y⟩:=k;have m:=r.lt;go_simp⟩) t (TK 4 (Q1 x.up) z (b ⟨f,λw k=>by obtain⟨r,y⟩:=k;have c:=r.y 3;go_simp⟩) t ?_)))
  simp only[PS];refine RD 2 z (λKq L=>?_);obtain⟨h,j⟩:=nMz I.drew;rw[<-j];have g:Q3 I h:=by rw[j];exact(D).drew
  have M:=R.E (g.J R.size);have N:=r4.I g;have U:=u.I g;have V:=T.I g;clear j g;refine LM f 119 #[.agg (sK x.W x.S x.L x.T x.H x.F x.R x.U x.O (Y q.s x.rs.length q.cs))] γ (CF.j _ (HH.j.I M).h3) ?_
 rotate_left
 by_cases k4:e.K=4
 focus
  have g:(i,p)=(QL x.W x.S x.L x.T x.H x.F x.R x.U x.O x.rs,x.up):=by rw[Q.j];unfold Wo.call;rw[A J];rw[A K];rw[A k3];rw[AI k4]
  obtain⟨j,rfl⟩:=KQ g;rw[<-j]at CM;have kb:(e.K == 4)=true:=by simp[k4]
  have aQ:(e.K == 1)=false:=by simp[J]
  have aS:(e.K == 2)=false:=by simp[K]
  have aU:(e.K == 3)=false:=by simp[k3]
  clear g j Q k4;go_upto_region 9 with fail;clear c0 cl;have P:=(@D I.heap.size I).drew;refine AN (S:=λv=>Row v w.heap.size (wL x q)/\Row v (w.heap.size+1) [Z e.K,Y a e.b.length c,Z e.cut,Y o e.fs.length n]) κ (⟨u.I P,T.I P⟩) (λt=>?_);refine TK 0 (Dr w.heap.size 4) z (b ⟨f,λw k=>by obtain⟨r,y⟩:=k;have m:=r.lt;go_simp⟩) t (TK 1 (.agg (sK x.W x.S x.L x.T x.H x.F x.R x.U x.O (Y q.s x.rs.length q.cs))) z (b ⟨f,λw k=>by obtain⟨r,y⟩:=k;exact SA 44 _ z _ 4 z (sJ x.W x.S x.L x.T x.H x.F x.R x.U x.O (Y q.s x.rs.length q.cs)) _ (Row.rangeMid (pre:=[Z x.w,Y q.a x.ss.length q.c,Y q.a' x.ws.length q.c',Q1 x.up]) (cs:=(sJ x.W x.S x.L x.T x.H x.F x.R x.U x.O (Y q.s x.rs.length q.cs))) (post:=[Y q.p x.P.length q.cp,Y q.t x.ts.length q.ct]) r) underlying44 z lj⟩) t (TK 3 (Dr w.heap.size 3) z (b ⟨f,λw k=>by obtain⟨r,y⟩:=k;have m:=r.lt;go_simp⟩) t (TK 4 (Q1 x.up) z (b ⟨f,λw k=>by obtain⟨r,y⟩:=k;have c:=r.y 3;go_simp⟩) t ?_)))
  simp only[PS];refine RD 2 z (λKq L=>?_);obtain⟨h,j⟩:=nMz I.drew;rw[<-j];have g:Q3 I h:=by rw[j];exact(D).drew
  have M:=R.E (g.J R.size);have N:=r4.I g;have U:=u.I g;have V:=T.I g;clear j g;refine LM f 120 #[.agg (sK x.W x.S x.L x.T x.H x.F x.R x.U x.O (Y q.s x.rs.length q.cs))] γ (CM.j _ (HH.j.I M).h3) ?_
 rotate_left
 obtain⟨rfl,rfl⟩:=KQ (show(i,p)=(LO 0,false) by rw[Q.j];unfold Wo.call;rw[A J,A K,A k3,A k4]);have aQ:(e.K == 1)=false:=by simp[J]
 have aS:(e.K == 2)=false:=by simp[K]
 have aU:(e.K == 3)=false:=by simp[k3]
 have v:(e.K == 4)=false:=by simp[k4]
 go_upto_region 10 with fail;refine AX ?_;refine VD z (.agg (dK 0 0 0 0 0 0 0 0 0 0 (Y none 0 0) (Y none 0 0))) γ ?_;simp only[PS];refine BV z 115 _ _ z (w.heap.size+1+1) 0 (dK 0 0 0 0 0 0 0 0 0 0 (Y none 0 0) (Y none 0 0)) z z (r4.there z) fk κ ?_
 try simp only[PS]
 have j:=QF I (w.heap.size+1+1) 0 (dJ 0 0 0 0 0 0 0 0 0 0 (Y none 0 0) (Y none 0 0));have O:=r4.sets (dJ 0 0 0 0 0 0 0 0 0 0 (Y none 0 0) (Y none 0 0)) z;generalize l:I.setCells _ _ _=y6 at j O⊢;clear l
 try go_wp2
 exact ti 4 5 115 results79 _ z _ z (dJ 0 0 0 0 0 0 0 0 0 0 (Y none 0 0) (Y none 0 0)) _ O underlying115 z fk z ⟨none,0,none,0,z,AA,⟨.inl z,.inl z,.inl z⟩,λg k=>(by cases k),λg k=>(by cases k),R.E (MU j R.size (λx e=>by have e:=BQ e;omega))⟩
 all_goals
  rintro r5 G ⟨B,F,E,H,rfl,X,own,C,d,g⟩;refine⟨_,z,?_⟩;refine L.j _ _ (⟨U.I g,V.I g⟩) (λaL=>?_)
  try simp only[PS]
  refine RD 5 z (λKq L=>?_);refine VC z 115 _ _ z (w.heap.size+1+1) 0 (dK i.C i.W i.S i.L i.T i.H i.F i.R i.U i.O (Y B i.rs.length F) (Y E i.ops.length H)) z z ((N.I g).there z) fk κ ?_;have j:=QF G (w.heap.size+1+1) 0 (dJ i.C i.W i.S i.L i.T i.H i.F i.R i.U i.O (Y B i.rs.length F) (Y E i.ops.length H));have O:=(N.I g).sets (dJ i.C i.W i.S i.L i.T i.H i.F i.R i.U i.O (Y B i.rs.length F) (Y E i.ops.length H)) z;refine L.j _ _ (⟨(U.I g).V j (λe=>by injection e with e;omega),(V.I g).V j (λe=>by injection e with e;omega)⟩) (λaF=>?_)
  try simp only[PS]
  refine TY 6 (Q1 (x.up)) z aF ?_;simp only[PS];refine DN ?_;have W:=LE (zo (X:=w.heap.size+1+1) (vs:=(dJ i.C i.W i.S i.L i.T i.H i.F i.R i.U i.O (Y B i.rs.length F) (Y E i.ops.length H))) ⟨ω,N.lt⟩ M ⟨B,F,E,H,z,X,own,C,d,g⟩ X own C d g (x.up));generalize l:G.setCells _ _ _=y6 at O W⊢;clear l
  try go_wp2
  exact ti 4 5 115 results79 _ z _ z (dJ i.C i.W i.S i.L i.T i.H i.F i.R i.U i.O (Y B i.rs.length F) (Y E i.ops.length H)) _ O underlying115 z fk z W.j
