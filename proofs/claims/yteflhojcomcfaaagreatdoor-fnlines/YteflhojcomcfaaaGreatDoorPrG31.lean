import Derived.Test.YteflhojcomcfaaaGreatDoorPrG18
import Derived.Test.YteflhojcomcfaaaGreatDoorPrG30
import Derived.Test.YteflhojcomcfaaaGreatDoorPrOpI
set_option maxHeartbeats 16000000
set_option maxRecDepth 8000
set_option linter.all false
namespace Go.Proofs.YteflhojcomcfaaaGreatDoor
open Tryz
open Go.RowKit
def ON(x:Wo):List Pr×Int:=if MF x=true then ((OL x.ss [] x.w).rs,(OL x.ss [] x.w).C) else ([],1)
theorem qm(x:Wo):(ON x).1.length<=1048576:=by
 unfold ON
 split
 .exact(wi x.ss [] x.w).1
 exact AL
def oC(w b:Q9)(e:Ending)(r:List Pr×Int):Prop:=∃a c,e=Q2 (.tuple #[LX a r.1.length c,Z r.2])/\r.1.length<=c/\OwnS b a (LS r.1)/\(∀g,blk a r.1.length=some g->w.heap.size<=g)/\Q3 w b
theorem tB(b:Wo)(q:Wp)(w:Q9)(c:b.at w q)(P:b.le 1048576):Calls prog 72 #[MD b q] w λe s=>oC w s e (ON b):=by
 have v:=LE (λs k=>pT b q s k P);obtain⟨a,r⟩:=nHz (OL b.ss [] b.w);have K:=LE (λs k=>wY q.a b.ss q.c none [] 0 b.w s k (.inl z) P.l1 j P.s1 j);have U:=(wi b.ss [] b.w).1;rw[<-r.j]at K U;simp only[AU]at K;unfold MD at v⊢;have n:Q3 w ((w.alloc (.cells (wA b q) 47)).alloc (.cells #[Y none 0 0] 42)):=((D).alloc C _).alloc j _;have m:=(LZ w (wA b q) 47).alloc (.cells #[Y none 0 0] 42);have i:=OY (w.alloc (.cells (wA b q) 47)) #[Y none 0 0] 42 (w.heap.size+1) j
 cases hok:MF b with
 | false =>
  have e:ON b=([],1):=by unfold ON;rw[AF (by rw[hok];simp)]
  rw[e];rw[hok]at v;clear e;go_enter func72,ntmps72;go_wp2_with fail;obtain⟨R,p⟩:=u (w.heap.size+1);obtain⟨h,k⟩:=u w.heap.size;obtain⟨S,o⟩:=u ((w.alloc (.cells (wA b q) 47)).alloc (.cells #[Y none 0 0] 42));rw[<-o]at n m i;rw[<-p]at i;rw[<-k]at m;rw[<-o,<-p,<-k];have O:w.heap.size<=R:=ω
  clear o p;clear k;refine(v.j S (c.I n)).J ?_;rintro e f ⟨rfl,o⟩;have m:=m.I o;have i:=i.I o;have k:=n.E (o.J n.size);have c:=c.I k;clear n o;have Q:=i.y 0;have f0:=i.A 0;have rl:=i.lt;go_wp2;refine AE (v:=.tuple #[.agg #[Y none 0 0],Z 1]) (by simp[results,results72,go_sem,Q]) z ?_;exact⟨none,0,z,C,.inl z,λg y=>(by cases y),k.setCell (p:=(Ki R 0)) O _⟩
 | true =>
  have e:ON b=(a.rs,a.C):=by unfold ON;rw[AI hok,r.j]
  rw[e];rw[hok]at v;clear e r;go_enter func72,ntmps72;go_wp2_with fail;obtain⟨R,p⟩:=u (w.heap.size+1);obtain⟨h,k⟩:=u w.heap.size;obtain⟨S,o⟩:=u ((w.alloc (.cells (wA b q) 47)).alloc (.cells #[Y none 0 0] 42));rw[<-o]at n m i;rw[<-p]at i;rw[<-k]at m;rw[<-o,<-p,<-k];have O:w.heap.size<=R:=ω
  clear o p;clear k;refine(v.j S (c.I n)).J ?_;rintro e f ⟨rfl,o⟩;have m:=m.I o;have i:=i.I o;have k:=n.E (o.J n.size);have c:=c.I k;clear n o;have n:=m.y 0;have o:=m.y 1;have p:=m.lt;go_wp2_with fail;clear n o p;refine(K.j f c.h1).J ?_;rintro e B ⟨o,p,F,I,rfl,aT,own,g1,g2,M⟩;unfold MT;have aX:=i.lt;have aW:=k.size;have i:=i.I M;have k:=k.E (M.J k.size);have aY:=M.size;have t:=LZ B (dK a.C a.W a.S a.L a.T a.H a.F a.R a.U a.O (Y o a.rs.length p) (Y F a.ops.length I)) 115;have E:Q3 B (B.alloc (.cells (dK a.C a.W a.S a.L a.T a.H a.F a.R a.U a.O (Y o a.rs.length p) (Y F a.ops.length I)) 115)):=(D).alloc C _;go_upto_region 4 with fail;obtain⟨n,r⟩:=u B.heap.size;have G:R<n:=by rw[r];exact i.lt
  obtain⟨J,L⟩:=u (B.alloc (.cells (dK a.C a.W a.S a.L a.T a.H a.F a.R a.U a.O (Y o a.rs.length p) (Y F a.ops.length I)) 115));rw[<-L]at t E;rw[<-r]at t;rw[<-L,<-r];clear L;clear r;have i:=i.I E;have k:=k.E (E.J k.size);have ow:=own.s.I E
  have L:Hid (∀W,Row W n (dJ a.C a.W a.S a.L a.T a.H a.F a.R a.U a.O (Y o a.rs.length p) (Y F a.ops.length I))->W.cell? (Ki n 10)=some (Y o a.rs.length p)/\W.cell? (Ki n 0)=some (Z a.C)):=λW r=>⟨r.y 10,r.y 0⟩
  have x:Hid (R≠n):=LE (λe=>by have:=G;omega);have d:=i.lt;have A:=k.size;refine AN (S:=λs=>s.cell? (Ki n 10)=some (Y o a.rs.length p)/\s.cell? (Ki n 0)=some (Z a.C)) κ (L.j _ t.drew) (λr=>?_);refine TY 0 (Dr n 1) z r (TY 1 (Dr n 10) z r (TY 2 (.agg #[Y o a.rs.length p]) z r (TY 4 (Dr n 0) z r (TY 5 (Z a.C) z r ?_))));simp only[PS];refine RD 3 z (λT s=>?_);refine LM ρ _ _ γ (kl o a.rs p _ (ow.I (D).drew).prs U) ?_;rintro e u1 ⟨V,W,rfl,H,aV,X,N⟩;refine⟨_,z,?_⟩;have t:=(t.I (D).drew).I N;have i:=(i.I (D).drew).I N;have k:=(k.E ((@D J.heap.size J).drew.J k.size)).E (N.J k.size);refine s.j _ _ (L.j _ t) (λaQ=>?_)
  try simp only[PS]
  refine RD 6 z (λT s=>?_);have Q:=i.y 0;have f0:=i.A 0;have rl:=i.lt;go_simp;refine s.j _ _ (L.j _ (t.other _ (λe=>x.j e) _)) (λl=>?_)
  try simp only[PS]
  refine RD 7 z (λT s=>?_);go_simp;refine s.j _ _ l (λ_=>?_)
  try simp only[PS]
  refine DN ?_;go_wp2;refine AE (v:=.tuple #[.agg #[Y V a.rs.length W],Z a.C]) (by simp[results,results72,go_sem,Q]) z ?_;exact⟨V,W,z,H,aV.set' _ (λg y hn=>by have:=X g (by subst y;exact ND _ _ _ (pC hn));have:J.heap.size<=g:=this;have:=d;show R≠g;omega) _,λg y=>by have:J.heap.size<=g:=X g y;have:=A;omega,k.setCell (p:=(Ki R 0)) O _⟩
theorem rC(b:Wo)(q:Wp)(w:Q9)(c:b.at w q)(hc:b.rs.length<=q.cs)(N:b.le 1048576)(T:TypeId)(v:Ra)(hv:w.cell? (Ki 7 0)=some (.iface T v))(S:w.cell? (Ki 1 0)=some (.iface 318 (.agg #[Dr 10 58])))(p:7<w.heap.size):Calls prog 62 #[MD b q] w λe o=>oC w o e (ON b):=by
 have s:=LE (λo k=>vo b q o k hc N);obtain⟨a,r⟩:=nHz (OL b.ss [] b.w);have I:=LE (λo (M:Q3 w o) k=>lO q.a b.ss q.c none [] 0 b.w o k (.inl z) N.l1 j N.s1 j T v ((M.cell (p:=(Ki 7 0)) p).E hv) ((M.cell (p:=(Ki 1 0)) (by show 1<_;omega)).E S) (by have:=M.size;omega));clear hv S p;have A:=(wi b.ss [] b.w).1;rw[<-r.j]at I A;simp only[AU]at I;unfold MD at s⊢;have l:Q3 w ((w.alloc (.cells (wA b q) 47)).alloc (.cells #[Y none 0 0] 42)):=((D).alloc C _).alloc j _;have k:=(LZ w (wA b q) 47).alloc (.cells #[Y none 0 0] 42);have f:=OY (w.alloc (.cells (wA b q) 47)) #[Y none 0 0] 42 (w.heap.size+1) j
 cases hok:MF b with
 | false =>
  have e:ON b=([],1):=by unfold ON;rw[AF (by rw[hok];simp)]
  rw[e];rw[hok]at s;clear e;go_enter func62,ntmps62;go_wp2_with fail;obtain⟨R,n⟩:=u (w.heap.size+1);obtain⟨V,i⟩:=u w.heap.size;obtain⟨O,m⟩:=u ((w.alloc (.cells (wA b q) 47)).alloc (.cells #[Y none 0 0] 42));rw[<-m]at l k f;rw[<-n]at f;rw[<-i]at k;rw[<-m,<-n,<-i];have L:w.heap.size<=R:=ω
  clear m n;clear i;refine(s.j O (c.I l)).J ?_;rintro e U ⟨rfl,m⟩;have k:=k.I m;have f:=f.I m;have i:=l.E (m.J l.size);have c:=c.I i;clear l m;have J:=f.y 0;have f0:=f.A 0;have rl:=f.lt;go_wp2;refine AE (v:=.tuple #[.agg #[Y none 0 0],Z 1]) (by simp[results,results62,go_sem,J]) z ?_;exact⟨none,0,z,C,.inl z,λg p=>(by cases p),i.setCell (p:=(Ki R 0)) L _⟩
 | true =>
  have e:ON b=(a.rs,a.C):=by unfold ON;rw[AI hok,r.j]
  rw[e];rw[hok]at s;clear e r;go_enter func62,ntmps62;go_wp2_with fail;obtain⟨R,n⟩:=u (w.heap.size+1);obtain⟨V,i⟩:=u w.heap.size;obtain⟨O,m⟩:=u ((w.alloc (.cells (wA b q) 47)).alloc (.cells #[Y none 0 0] 42));rw[<-m]at l k f;rw[<-n]at f;rw[<-i]at k;rw[<-m,<-n,<-i];have L:w.heap.size<=R:=ω
  clear m n;clear i;refine(s.j O (c.I l)).J ?_;rintro e U ⟨rfl,m⟩;have k:=k.I m;have f:=f.I m;have i:=l.E (m.J l.size);have c:=c.I i;clear l m;have l:=k.y 0;have m:=k.y 1;have n:=k.lt;go_wp2_with fail;clear l m n;refine(I.j U i c.h1).J ?_;rintro e t ⟨⟨m,n,B,E,rfl,h,own,Q,g2,K⟩,_⟩;unfold MT;have d:=f.lt;have G:=i.size;have f:=f.I K;have i:=i.E (K.J i.size);have aV:=K.size;have F:=LZ t (dK a.C a.W a.S a.L a.T a.H a.F a.R a.U a.O (Y m a.rs.length n) (Y B a.ops.length E)) 115;have y:Q3 t (t.alloc (.cells (dK a.C a.W a.S a.L a.T a.H a.F a.R a.U a.O (Y m a.rs.length n) (Y B a.ops.length E)) 115)):=(D).alloc C _;go_upto_region 4 with fail;obtain⟨l,r⟩:=u t.heap.size;have H:R<l:=by rw[r];exact f.lt
  obtain⟨v4,J⟩:=u (t.alloc (.cells (dK a.C a.W a.S a.L a.T a.H a.F a.R a.U a.O (Y m a.rs.length n) (Y B a.ops.length E)) 115));rw[<-J]at F y;rw[<-r]at F;rw[<-J,<-r];clear J;clear r;have f:=f.I y;have i:=i.E (y.J i.size);have ow:=own.s.I y
  have P:Hid (∀W,Row W l (dJ a.C a.W a.S a.L a.T a.H a.F a.R a.U a.O (Y m a.rs.length n) (Y B a.ops.length E))->W.cell? (Ki l 10)=some (Y m a.rs.length n)/\W.cell? (Ki l 0)=some (Z a.C)):=λW r=>⟨r.y 10,r.y 0⟩
  have x:Hid (R≠l):=LE (λe=>by have:=H;omega);have aU:=f.lt;have aT:=i.size;refine AN (S:=λo=>o.cell? (Ki l 10)=some (Y m a.rs.length n)/\o.cell? (Ki l 0)=some (Z a.C)) κ (P.j _ F.drew) (λr=>?_);refine TY 0 (Dr l 1) z r (TY 1 (Dr l 10) z r (TY 2 (.agg #[Y m a.rs.length n]) z r (TY 3 (Dr l 0) z r (TY 4 (Z a.C) z r ?_))));simp only[PS];refine RD 5 z (λW o=>?_);have aS:=f.y 0;have f:=f.drew;have J:=f.y 0;have f0:=f.A 0;have rl:=f.lt;go_simp;refine o.j _ _ (P.j _ (F.drew.other _ (λe=>x.j e) _)) (λX=>?_)
  try simp only[PS]
  refine RD 6 z (λW o=>?_);go_simp;refine o.j _ _ X (λ_=>?_)
  try simp only[PS]
  refine DN ?_;go_wp2;refine AE (v:=.tuple #[.agg #[Y m a.rs.length n],Z a.C]) (by simp[results,results62,go_sem,J,aS]) z ?_;exact⟨m,n,z,h,(ow.I (D).drew).set' _ (λg p hn=>by have:=Q g (by subst p;exact ND _ _ _ (pC hn));have:=d;show R≠g;omega) _,λg p=>by have:=Q g p;have:=G;omega,i.drew.setCell (p:=(Ki R 0)) L _⟩
def UO(x:Wo):Bool:=decide ((ON x).2=0) && x.P.any λp=>decide (p=(ON x).1)
theorem uK{P:List (List Pr)}{s:List Pr}(h:∀j,j<P.length->¬P.getD j []=s):(P.any λp=>decide (p=s))=false:=by
 rw[List.any_eq_false];intro p b;obtain⟨i,a,rfl⟩:=EM b;have:=h i a;simpa[List.getD,a] using this
theorem vU{P:List (List Pr)}{s:List Pr}(j:Nat)(a:j<P.length)(h:P.getD j []=s):(P.any λp=>decide (p=s))=true :=List.any_eq_true.2 ⟨P.getD j [],by simp[List.getD,a],by simpa using h⟩
theorem O1(a b:Q5)(f g:List Pr)(c k:Nat)(w:Q9)(h:Prs w a f)(o:Prs w b g)(p:f.length<=1048576)(n:g.length<=1048576):Calls prog 103 #[LX a f.length c,LX b g.length k] w λe d=>e=Q2 (Q1 (decide (f=g)))/\Q3 w d:=by
 have i:Q3 w ((w.alloc (.cells #[Y a f.length c] 42)).alloc (.cells #[Y b g.length k] 42)):=((D).alloc C _).alloc j _;have l:=LE (Gl a b f g c k _ (h.I i) (o.I i) p n);obtain⟨d,m⟩:=u (decide (f=g));rw[<-m]at l⊢;clear m;go_enter func103,ntmps103;go_wp2_with fail;refine l.j.J ?_;rintro e q ⟨rfl,m⟩;go_wp2;go_ret;exact⟨z,i.E (m.J i.size)⟩
theorem Nd(a:Q5)(P:List (List Pr))(c:Nat)(b:Q5)(f:List Pr)(A:Nat)(w:Q9)(h:Pst w a P)(H:Prs w b f)(M:P.length<=1048576)(E:f.length<=1048576)(I:∀g∈P,g.length<=1048576):Calls prog 155 #[Y a P.length c,.func (.func 103) #[LX b f.length A] #[]] w λe i=>(∃r:Int,e=Q2 (Z r)/\(P.any λp=>decide (p=f))=decide (0<=r))/\Q3 w i:=by
 go_enter func155,ntmps155;go_wp2;go_loopw [5,8] (λ_ i wr=>∃k:Nat,k<=P.length/\i=Z (k:Int)/\Hid (∀j,j<k->¬P.getD j []=f)/\Q3 w wr) (λ_ i _=>P.length-(intOf i).toNat)
 case atStart=>exact⟨0,AL,z,λj s=>absurd s d,D⟩
 case round =>
  obtain⟨k,L,rfl,t,l⟩:=hrel
  by_cases r:k<P.length
  .have C:(k:Int)<(P.length:Int):=d
   obtain⟨K,N,p,G,rfl,J,F,v⟩:=(h.I l).at r;have y:(P.getD k []).length<=1048576:=I _ (by simp[List.getD,r])
   have n:Hid (¬P.getD k []=f->∀j,j<k+1->¬P.getD j []=f):=LE (λg j s=>by
    by_cases e:j=k
    .subst e;exact g
    .exact t.j j d)
   have o:Hid (P.getD k []=f->(P.any λp=>decide (p=f))=true):=LE (λg=>vU k r g);obtain⟨q,g⟩:=u (P.getD k []);rw[<-g]at F v y n o;clear g;go_wp2_with fail;refine(O1 b p f q A G _ (H.I l) v.j E y).J ?_;rintro e O ⟨rfl,B⟩;have x:=l.E (B.J l.size)
   by_cases g:f=q
   .have m:decide (f=q)=true:=AM g
    rw[m];have i:=o.j g.symm;clear m g o n;go_wp2;go_ret
    exact⟨⟨(k:Int),z,by first|(rw[i,AM d])|omega|(simp[i];done)⟩,x⟩
   have m:decide (f=q)=false:=AH g
   rw[m];have i:=LE (n.j (λe=>g e.symm));clear m g o n;go_wp2;go_roundw
   case rel=>exact⟨k+1,d,ν,i.j,x⟩
   case measure=>simp[intOf];omega
  have C:¬(k:Int)<(P.length:Int):=d
  have i:=uK (P:=P) (s:=f) (λj s=>t.j j d);go_wp2;go_ret
  exact⟨⟨-1,z,by first|(rw[i,AH d])|omega|(simp[i];done)⟩,l⟩
theorem Jl(a:Q5)(P:List (List Pr))(c:Nat)(b:Q5)(d:List Pr)(g:Nat)(w:Q9)(h:Pst w a P)(k:Prs w b d)(m:P.length<=1048576)(j:d.length<=1048576)(o:∀f∈P,f.length<=1048576):Calls prog 102 #[Y a P.length c,.func (.func 103) #[LX b d.length g] #[]] w λe i=>e=Q2 (Q1 (P.any λp=>decide (p=d)))/\Q3 w i:=by
 obtain⟨B,i⟩:=x (P.any λp=>decide (p=d));have f:=LE (Nd a P c b d g w h k m j o);rw[<-i.j]at f⊢;go_enter func102,ntmps102;go_wp2_with fail;refine f.j.J ?_;rintro e p ⟨⟨r,rfl,n⟩,l⟩;go_wp2;go_ret;exact⟨by rw[n];rfl,l⟩
theorem uN{x:Wo}(h:(ON x).2≠0):UO x=false:=by unfold UO;rw[AH h];rfl
theorem tZ{x:Wo}(h:(ON x).2=0):UO x=x.P.any λp=>decide (p=(ON x).1):=by unfold UO;rw[AM h];simp
theorem Fu(x:Wo)(q:Wp)(w:Q9)(a:x.at w q)(M:x.le 1048576):Calls prog 73 #[MD x q] w λe t=>e=Q2 (Q1 (UO x))/\Q3 w t:=by
 have j:=LE (λt k=>tB x q t k M);have C:=qm x;have E:Hid ((ON x).2≠0->UO x=false):=LE uN;have F:Hid ((ON x).2=0->UO x=x.P.any λp=>decide (p=(ON x).1)):=LE tZ;obtain⟨R,i⟩:=u (UO x);obtain⟨fr,g⟩:=u (ON x);obtain⟨c,b⟩:=fr;rw[<-i]at E F⊢;rw[<-g]at j C E F;clear i g;have bH:=M.l4;have bE:Hid (∀c∈x.P,c.length<=1048576):=LE (λc g=>(M.s4 c g).1);unfold MD at j⊢;have o:Q3 w (w.alloc (.cells (wA x q) 47)):=(D).alloc AA _;have g:=LZ w (wA x q) 47;go_enter func73,ntmps73;go_wp2_with fail;obtain⟨U,i⟩:=u w.heap.size;obtain⟨v1,m⟩:=u (w.alloc (.cells (wA x q) 47));rw[<-m]at o g;rw[<-i]at g;rw[<-m,<-i];clear m;clear i;refine(j.j v1 (a.I o)).J ?_;rintro e v ⟨r,s,rfl,bG,ow,-,i⟩;have g:=g.I i;have m:=o.E (i.J o.size);have Q:=a.h4.I m
 clear o i a j M
 by_cases S:b=0
 .subst S
  have i:=F.j z;clear E F;have A:=LZ v #[Y r c.length s] 42;have j:Q3 v (v.alloc (.cells #[Y r c.length s] 42)):=(D).alloc AA _;go_upto_region 2 with fail;obtain⟨XB,n⟩:=u v.heap.size;obtain⟨v3,o⟩:=u (v.alloc (.cells #[Y r c.length s] 42));rw[<-o]at A j;rw[<-n]at A;rw[<-o,<-n];clear o;clear n;have g:=g.I j;have m:=m.E (j.J m.size);have pr:=ow.prs.I j;have Q:=Q.I j;clear j;have X:Hid (∀k,k<x.P.length->x.P.getD k []=c->R=true):=LE (λk hk y=>by rw[i];exact vU k hk y);have W:Hid ((∀j,j<x.P.length->¬x.P.getD j []=c)->R=false):=LE (λy=>by rw[i];exact uK y);clear i;go_wp2;go_loopw [5] (λi wr=>∃k:Nat,k<=x.P.length/\i=Z (k:Int)/\Hid (∀j,j<k->¬x.P.getD j []=c)/\Q3 v3 wr) (λi _=>x.P.length-(intOf i).toNat)
  case atStart=>exact⟨0,AL,z,λj T=>absurd T d,D⟩
  case round =>
   obtain⟨k,hk,rfl,V,n⟩:=hrel;have g:=g.I n;have A:=A.I n;have ra:=g.y 14;have bI:=g.lt
   by_cases N:k<x.P.length
   .have bB:(k:Int)<(x.P.length:Int):=d
    obtain⟨G,I,p,P,i,o,O,h⟩:=(Q.I n).at N;rw[i]at ra g;have f:(x.P.getD k []).length<=1048576:=bE.j _ (by simp[List.getD,N])
    have J:Hid (¬x.P.getD k []=c->∀j,j<k+1->¬x.P.getD j []=c):=LE (λy j T=>by
     by_cases e:j=k
     .subst e;exact y
     .exact V.j j d)
    have K:=LE (X.j k N);obtain⟨B,y⟩:=u (x.P.getD k []);rw[<-y]at O h f J K;clear y;rw[i];clear i;go_upto_region 7 with fail;refine AN (S:=λt=>t.cell? (Ki U 14)=some (Y (Hw G I) x.P.length q.cp)/\t.cell? (Ki G (I+k))=some (Y p B.length P)/\t.cell? (Ki XB 0)=some (Y r c.length s)) κ (⟨g.drew.y 14,O,A.drew.y 0⟩) (λy=>?_);refine TY 0 (Dr U 14) z y (TY 1 (Y (Hw G I) x.P.length q.cp) z y (TY 2 (Z (k:Int)) z y (TY 3 (Dr G (I+k)) z y (TY 4 (.agg #[Y p B.length P]) z y (TY 5 (.agg #[Y r c.length s]) z y ?_)))));simp only[PS];refine RD 6 z (λKq aZ=>?_);refine LM ρ _ _ γ (Ky p r B c P s _ (h.j.I (D).drew) ((pr.I n).I (D).drew) f C) ?_
    rintro e u1 ⟨rfl,L⟩;refine⟨_,z,?_⟩;have l:=(n.E ((@D wr.heap.size wr).drew.J n.size)).E (L.J n.size);refine aZ.j _ _ (⟨(g.drew.I L).y 14,(L.cell (p:=(Ki G (I+k))) o).E O,(A.drew.I L).y 0⟩) (λaY=>?_)
    try simp only[PS]
    refine DN ?_
    by_cases t:B=c
    .have H:decide (B=c)=true:=AM t
     rw[H];have i:=K.j t;clear H t K J W X;subst i;go_wp2;go_ret;exact⟨z,m.E (l.J m.size)⟩
    have H:decide (B=c)=false:=AH t
    rw[H];have i:=LE (J.j t);clear H t K J;go_wp2;go_roundw
    case rel=>exact⟨k+1,d,ν,i.j,l⟩
    case measure=>simp[intOf];omega
   have bB:¬(k:Int)<(x.P.length:Int):=d
   have i:=W.j (λj T=>V.j j d);subst i;go_wp2;go_ret;exact⟨z,m.E (n.J m.size)⟩
 have i:=E.j S
 clear E F;subst i;have n:(b == 0)=false:=by simpa using S
 have j:Q3 v (v.alloc (.cells #[Y r c.length s] 42)):=(D).alloc AA _;go_wp2;go_ret;exact⟨z,m.E (j.J m.size)⟩
theorem O7(x:Wo)(q:Wp)(w:Q9)(h:x.at w q)(K:x.rs.length<=q.cs)(r:x.le 1048576)(G:TypeId)(v:Ra)(hv:w.cell? (Ki 7 0)=some (.iface G v))(E:w.cell? (Ki 1 0)=some (.iface 318 (.agg #[Dr 10 58])))(F:7<w.heap.size):Calls prog 64 #[MD x q] w λe a=>e=Q2 (Q1 (UO x))/\Q3 w a:=by
 have o:=LE (λa (A:Q3 w a) k=>rC x q a k K r G v ((A.cell (p:=(Ki 7 0)) F).E hv) ((A.cell (p:=(Ki 1 0)) (by show 1<_;omega)).E E) (by have:=A.size;omega));clear hv E F;have B:=qm x;have j:Hid ((ON x).2≠0->UO x=false):=LE uN;have l:Hid ((ON x).2=0->UO x=x.P.any λp=>decide (p=(ON x).1)):=LE tZ;obtain⟨R,g⟩:=u (UO x);obtain⟨J,c⟩:=u (ON x);obtain⟨b,a⟩:=J;rw[<-g]at j l⊢;rw[<-c]at o B j l;clear g c;have H:=r.l4;have I:Hid (∀b∈x.P,b.length<=1048576):=LE (λb c=>(r.s4 b c).1);unfold MD at o⊢;have c:Q3 w (w.alloc (.cells (wA x q) 47)):=(D).alloc C _;have f:=LZ w (wA x q) 47;go_enter func64,ntmps64;go_wp2_with fail;obtain⟨O,d⟩:=u w.heap.size;obtain⟨M,g⟩:=u (w.alloc (.cells (wA x q) 47));rw[<-g]at c f;rw[<-d]at f
 rw[<-g,<-d];clear g;clear d;refine(o.j M c (h.I c)).J ?_;rintro e i ⟨m,n,rfl,Q,L,-,g⟩;have f:=f.I g;have d:=c.E (g.J c.size);have t:=h.h4.I d;clear c g h o r
 by_cases y:a=0
 .subst y
  have g:=l.j z;clear j l;have o:=LZ i #[Y m b.length n] 42;have c:Q3 i (i.alloc (.cells #[Y m b.length n] 42)):=(D).alloc C _;go_upto_region 2 with fail;obtain⟨P,p⟩:=u i.heap.size;obtain⟨N,s⟩:=u (i.alloc (.cells #[Y m b.length n] 42));rw[<-s]at o c;rw[<-p]at o;rw[<-s,<-p];clear s;clear p;have f:=f.I c;have d:=d.E (c.J d.size);have p:=L.prs.I c;have t:=t.I c;clear c;have c:=LE (Jl q.p x.P q.cp m b n N t p H B I.j);rw[<-g]at c;clear g;have T:=f.y 14;have s:=f.lt;have U:=o.y 0;have S:=o.lt;go_wp2_with fail;refine c.j.J ?_;rintro e V ⟨rfl,g⟩;go_wp2;go_ret;exact⟨z,d.E (g.J d.size)⟩
 have g:=j.j y
 clear j l;subst g;have j:(a == 0)=false:=by simpa using y
 have c:Q3 i (i.alloc (.cells #[Y m b.length n] 42)):=(D).alloc C _;go_wp2;go_ret;exact⟨z,d.E (c.J d.size)⟩
