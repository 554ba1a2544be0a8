import Derived.Test.YtjdmogljfdffeaaGreatDoorPrG43
import Derived.Test.YtjdmogljfdffeaaGreatDoorPrOpI
import Derived.Test.YtjdmogljfdffeaaGreatDoorPrCmI
set_option maxHeartbeats 16000000
namespace Go.Proofs.YtjdmogljfdffeaaGreatDoor
open Tryz
open Go.RowKit
set_option maxRecDepth 8000
set_option linter.all false
theorem dm:(prog.info? 43).map (·.size)=some 4:=κ
theorem Ht{w:World}{o:Nat->Nat}{g:Nat}{a:Option Addr}{c:Nat}{b:List Pr}(d:Row w g [.slice a b.length c])(e:o g=5)(h:OwL w o 7 a (LH b)):YR w o (some ⟨g,0,none⟩) [b] :=.inr ⟨g,rfl,d.lt,e,λi f=>by
  obtain rfl:i=0:=by simpa using f
  exact⟨a,c,d.y 0,h⟩⟩
def Wo.setE(x:Wo)(e:Ev)(D:Dd):Wo:=if x.runB e D=true then { x.runE e D with P:=[D.rs] } else x.runE e D
theorem qw(x:Wo)(q:Wp)(e:Ev)(a:Option Addr)(c:Nat)(f:Option Addr)(d:Nat)(D:Dd)(v:Option Addr)(z:Nat)(C:Option Addr)(E m:Nat)(l:Int)(o:Nat->Nat)(w:World)(Q:Row w m (RP l x q))(h:RH x w q o)(F:o m=0)(hs:OwL w o 3 v (LH D.rs))(n:OwL w o 6 C (NJ D.ops))(aW:D.ops.length<=E)(hf:DepF w (λb=>b≠m) (λW=>Ints W f e.fs))(ho:x.ok)(R:D.ok)(he:e.le)(hK:e.K≠2)(X:x.rs.length<=q.cs)(aO:D.rs.length<=z):Calls prog 54 #[.pointer (some ⟨m,0,none⟩),NH e a c f d,MV D v z C E] w λr g=>r=.returned (.tuple #[])/\ZF w g m l o (x.setE e D):=by
 have lS:=Q.lt;have i:NW x e D=x.P:=AG hK;have bE:=(VS R.1).1;have j:=((YI Q (h.depF F)).add (hs.depF ω F)).add ((n.depF ω F).and hf);have s:=Z (λg t k A u y=>tU x q e a c f d D v z C E q.p q.cp m l o g t k F (by rw[i];exact k.h4) A u aW y ho R he X aO);rw[i]at s;unfold NH MV at s⊢;clear Q h hs n hf ho R he i hK X aO;obtain⟨i,k⟩:∃y,Hid (y=x.runE e D):=⟨_,Z rfl⟩;obtain⟨T,u⟩:∃y,Hid (y=x.runB e D):=⟨_,Z rfl⟩;rw[<-k.l,<-u.l]at s;obtain⟨aP,t⟩:∃y,Hid (y=x.setE e D):=⟨_,Z rfl⟩;rw[<-t.l];have A:Hid (aP=if T=true then { i with P:=[D.rs] } else i):=Z (by rw[t.l,k.l,u.l];rfl);clear t k u;go_enter func54,ntmps54;go_upto_region 1 with fail;generalize k:w.alloc _=v1;obtain⟨H,B,I⟩:=LF k;clear k;generalize u:v1.alloc _=S;obtain⟨k,G,t⟩:=LF u;clear u;rw[B]at t G;replace j:=(((j.z H).z k).add (UY (I.z k).q ω)).add (UY t.q ω)
 clear H k I t B G;replace j:=j.z (AC S.heap.size S).drew;refine AN (S:=λg=>m<g.heap.size/\Row g w.heap.size [.int .i64 e.K,.slice a e.b.length c,.int .i64 e.cut,.slice f e.fs.length d]/\Row g (w.heap.size+1) (dJ D.C D.W D.S D.L D.T D.H D.F D.R D.U D.O (.slice v D.rs.length z) (.slice C D.ops.length E))) κ (⟨j.r.lt,j.m.q.1.2,j.m.q.2⟩) (λu=>?_);refine V 0 (.pointer (some ⟨m,0,none⟩)) rfl u (TK 1 (.agg #[.int .i64 e.K,.slice a e.b.length c,.int .i64 e.cut,.slice f e.fs.length d]) rfl (BW ⟨ρ,λw g=>by obtain⟨z0,I,z2⟩:=g;exact RK 43 _ rfl _ 0 rfl _ _ I.range underlying43 rfl dm⟩) u (TK 2 (.agg (dK D.C D.W D.S D.L D.T D.H D.F D.R D.U D.O (.slice v D.rs.length z) (.slice C D.ops.length E))) rfl (BW ⟨ρ,λw g=>by obtain⟨z0,I,z2⟩:=g;exact RK 48 _ rfl _ 0 rfl _ _ z2.range underlying48 rfl TH⟩) u (V 3 (.pointer (some ⟨m,0,none⟩)) rfl u (V 4 (.pointer (some ⟨m,0,none⟩)) rfl u (V 5 (.pointer (some ⟨m,2,none⟩)) rfl u (V 6 (.pointer (some ⟨m,16,none⟩)) rfl u ?_))))))
 simp only[J];refine RD 7 rfl (λKq L=>?_);generalize g:S.drew=y at j⊢;clear g;have c16:=j.r.y 16;go_simp;clear c16;refine L.l _ _ (⟨j.r.lt,j.m.q.1.2,j.m.q.2⟩) (λaS=>?_)
 try simp only[J]
 refine RD 8 rfl (λKq L=>?_);refine LC ρ 56 #[.pointer (some ⟨m,0,none⟩),.agg #[.int .i64 e.K,.slice a e.b.length c,.int .i64 e.cut,.slice f e.fs.length d],.agg (dK D.C D.W D.S D.L D.T D.H D.F D.R D.U D.O (.slice v D.rs.length z) (.slice C D.ops.length E)),.slice q.p x.P.length q.cp] γ (s.l _ j.r j.m.q.1.1.1.1 j.m.q.1.1.1.2 j.m.q.1.1.2.1 (j.m.map λW k=>k.1.1.2.2)) ?_;rintro r H ⟨rfl,q1,G,M,g,K,t,B⟩;have W:=Z B;clear B;refine⟨_,rfl,?_⟩;have lw:=j.e.size;replace j:=j.put t M;have l1:=t.size;clear t M s;refine L.l _ _ (⟨j.r.lt,j.m.q.1.2,j.m.q.2⟩) (λaT=>?_)
 try simp only[J]
 refine DN ?_;have I:G m=0:=(K m ω).j F
 cases T with
 | false =>
  have s:=Z j;have B:=Z g;clear j g;go_wp2;refine GH (v:=.tuple #[]) (by simp[results,results54]) rfl ⟨rfl,q1,G,?_,?_,λb n=>K b ω,s.l.e,by rw[A.l];exact W.l⟩
  ·rw[A.l];exact s.l.r
  rw[A.l];exact B.l
 | true =>
  have ly:m<H.heap.size:=j.r.lt;replace j:=j.add (g.all I ly);clear g;have t:=Z (ZR v D.rs z H j.m.q.1.1.1.1.2.own.prs ω);unfold LQ at t;have g:=j.m.q.1.2.y 10;have s:=j.m.q.1.2.lt;go_wp2_with fail;clear g s;refine t.l.A ?_;rintro r s ⟨U,c5,rfl,aZ,B,O,n⟩;replace j:=j.z n;have l2:=n.size;have d5:=XE B (λM N=>M (by rw[AB N];rfl)) O ly
  have g6:=λg k=>ZW (g:=g) B k
  replace j:=j.add d5;unfold LQ;clear t n B d5;have c16:=j.r.y 16;have f16:=j.r.E 16;have t:=j.r.lt;go_wp2;clear c16 f16 t;have t:=j.set 16 σ (.slice (some ⟨s.heap.size,0,none⟩) 1 1);have zs:(s.setCell ⟨m,16,none⟩ (.slice (some ⟨s.heap.size,0,none⟩) 1 1)).heap.size=s.heap.size:=BJ _ _ _;generalize B:s.setCell _ _=y3 at t zs⊢;clear B j;have rN:=LU y3 #[.slice U D.rs.length c5] 31;rw[zs]at rN;replace t:=t.z (KW y3 (.cells #[.slice U D.rs.length c5] 31))
  have j:∀b,b<H.heap.size->(λb=>if b<H.heap.size then G b else if b=s.heap.size then 5 else 7) b=G b:=λb n=>AF n
  have B:=t.m.q.1.2 _ j;refine GH (v:=.tuple #[]) (by simp[results,results54]) rfl ⟨rfl,{ q1 with p:=some ⟨s.heap.size,0,none⟩,cp:=1 },_,?_,?_,λb n=>(j b ω).j (K b ω),t.e,by rw[A.l];exact W.l⟩
  ·rw[A.l];exact t.r
  rw[A.l];exact⟨B.h1,B.h2,B.h3,Ht rN τ (UQ t.m.q.2 (λM N=>M (by rw[AB N];rfl)) O (λg k=>by have b:=O g k;have h2:=g6 g k;show(if g<H.heap.size then G g else if g=s.heap.size then 5 else 7)=7;rw[AG ω,AG ω])),B.h5⟩
theorem tu{x:Wo}{e:Ev}{D:Dd}(b:e.K≠5)(h:e.K≠2)(c:x.call e=(D,true)):x.doE e=x.setE e D:=by
 by_cases d:D.C≠0\/200<(NW x e D).length\/2000<(PU x e D).length
 ·have f:x.runB e D=false:=by unfold Wo.runB;rw[AF d]
  have g:x.runE e D=x:=by unfold Wo.runE;rw[AF d]
  unfold Wo.setE;rw[f,g]
  by_cases a:D.C=0
  ·exact ux b c a ω
  exact ZA b c (.inr a)
 have a:D.C=0:=ω
 have f:x.runB e D=!QP e D:=by unfold Wo.runB;rw[AG d]
 have g:x.runE e D=if QP e D=true then (x.ran e D).pow e.fs else (x.ran e D).upS D:=by unfold Wo.runE;rw[AG d]
 unfold Wo.setE;rw[f,g]
 cases hb:QP e D with
 | true=>exact xt b c a ω hb
 | false=>exact tM b c a ω hb h
theorem sw{w:World}{o:Nat->Nat}{N f:Nat}{c:List Pr}{i:List OpT}{a b:Option Addr}(h:OwnDn w c i a b)(j:∀g,blk a c.length=some g->N<=g)(l:∀g,blk b i.length=some g->N<=g)(m:o f=0)(n:f<N):∃d:Nat->Nat,(∀x,x<N->d x=o x)/\d f=0/\OwL w d 3 a (LH c)/\OwL w d 6 b (NJ i):=by
 refine⟨λx=>if x<N then o x else if blk a c.length=some x then 3 else 6,λx d=>AF d,(AF n).j m,UQ h.s RA j (λg k=>?_),UQ h.p jr l (λg k=>?_)⟩
 ·show(if g<N then o g else if blk a c.length=some g then 3 else 6)=3
  rw[AG (by have:=j g k;omega),AF k]
 show(if g<N then o g else if blk a c.length=some g then 3 else 6)=6
 rw[AG (by have:=l g k;omega),AG (λe=>by rcases h.ne with h|h|h;rw[h]at e;cases e;rw[h]at k;cases k;exact h (e.j k.symm))]
theorem Ah(x:Wo)(q:Wp)(e:Ev)(a:Option Addr)(c:Nat)(f:Option Addr)(d j:Nat)(l:Int)(o:Nat->Nat)(w:World)(H:Row w j (RP l x q))(h:RH x w q o)(h0:o j=0)(aO:x.rs.length<=q.cs)(hf:DepF w (λb=>b≠j) (λW=>Ints W f e.fs))(K:x.ok)(he:e.le)(C:e.K=1)(ty:TypeId)(gv:Value)(aZ:w.cell? ⟨1,0,none⟩=some (.iface ty gv))(aY:w.cell? ⟨0,0,none⟩=some (.iface 263 (.agg #[.pointer (some ⟨3,125,none⟩)])))(aP:1<w.heap.size):Calls prog 13 #[.pointer (some ⟨j,0,none⟩),NH e a c f d] w λr g=>r=.returned (.tuple #[])/\ZF w g j l o (x.doE e):=by
 have lS:=H.lt;have k:=K.le;have hd:(OM x.ss x.ws x.w).ok:=by have:=K.call e;unfold Wo.call at this;simpa[C] using this
 have i:=(YI H (h.all h0 lS)).add hf;have B:=Z (λD1 L N M O o' g (I:Row g j (RP l x q)) h' h0' hs' hb' hbc hf' hd' hdc'=>qw x q e a c f d D1 L N M O j l o' g I h' h0' hs' hb' hbc hf' K hd' he ω aO hdc');have aQ:=Z aO;unfold NH MV at B;unfold NH;have t:=Z (λg h1 h2 (p:Below w.heap.size w g)=>Cf q.a x.ss q.c q.a' x.ws q.c' x.w g h1 h2 k.l1 k.l2 k.s1 k.s2 ty gv ((p.cell (p:=⟨1,0,none⟩) aP).j aZ) ((p.cell (p:=⟨0,0,none⟩) (by show 0<_;omega)).j aY) (AD aP p.size));unfold LE at t;obtain⟨X,A⟩:∃y,Hid (y=x.doE e):=⟨_,Z rfl⟩;rw[<-A.l];obtain⟨D,Q⟩:∃D,Hid (D=OM x.ss x.ws x.w):=⟨_,Z rfl⟩;rw[<-Q.l]at t hd;have U:Hid (x.call e=(D,!x.up)):=Z (by rw[Q.l];unfold Wo.call;simp[C]);have F:=Z C;clear H h hf k C;go_enter func13,ntmps13;go_upto_region 1 with fail;generalize k:w.alloc _=E;obtain⟨s,n,m⟩:=LF k
 clear k;replace i:=(i.z s).add (UY m.q ω);clear m n;have c5:=i.r.y 5;have cl:=i.r.lt;have bH:=s.size;obtain⟨u,G⟩:∃u,Hid (u=x.up):=⟨_,Z rfl⟩;rw[<-G.l]at c5
 cases u with
 | false =>
  have z:X=x.setE e D:=by rw[A.l];exact tu (by have:=F.l;omega) (by have:=F.l;omega) (by rw[U.l,<-G.l];rfl)
  go_upto_region 2 with fail;clear c5 cl;replace i:=i.z (AC E.heap.size E).drew;replace s:=s.drew;refine AN (S:=λg=>j<g.heap.size/\Row g w.heap.size [.int .i64 e.K,.slice a e.b.length c,.int .i64 e.cut,.slice f e.fs.length d]) κ (⟨i.r.lt,i.m.q.2⟩) (λn=>?_);refine V 0 (.pointer (some ⟨j,0,none⟩)) rfl n (TK 1 (.agg #[.int .i64 e.K,.slice a e.b.length c,.int .i64 e.cut,.slice f e.fs.length d]) rfl (BW ⟨ρ,λw g=>by obtain⟨z0,P⟩:=g;exact RK 43 _ rfl _ 0 rfl _ _ P.range underlying43 rfl dm⟩) n (V 2 (.pointer (some ⟨j,0,none⟩)) rfl n (V 3 (.pointer (some ⟨j,0,none⟩)) rfl n (V 4 (.pointer (some ⟨j,2,none⟩)) rfl n (V 5 (.pointer (some ⟨j,3,none⟩)) rfl n (V 7 (.pointer (some ⟨j,0,none⟩)) rfl n (V 8 (.pointer (some ⟨j,0,none⟩)) rfl n (V 9 (.pointer (some ⟨j,2,none⟩)) rfl n (V 10 (.pointer (some ⟨j,2,none⟩)) rfl n ?_)))))))))
  simp only[J];refine DH (rs:=[6,11]) κ σ ?_;refine AY rfl (λv m=>?_) (AY rfl (λv m=>?_) DE)
  focus
   generalize g:E.drew=y at i s⊢;clear g;have g:=i.r.y 3;have k:=i.r.y 4;go_simp;clear g k;refine m.l _ _ (⟨i.r.lt,i.m.q.2⟩) (λaT=>?_)
   try simp only[J]
   refine RD 11 rfl (λv m=>?_);have g:=i.r.y 2;go_simp;clear g;refine m.l _ _ (⟨i.r.lt,i.m.q.2⟩) (λaH=>?_)
   try simp only[J]
   have aX:=aH
  rotate_left
  focus
   generalize g:E.drew=y at i s⊢;clear g;have g:=i.r.y 2;go_simp;clear g;refine m.l _ _ (⟨i.r.lt,i.m.q.2⟩) (λaU=>?_)
   try simp only[J]
   refine RD 6 rfl (λv m=>?_);have g:=i.r.y 3;have k:=i.r.y 4;go_simp;clear g k;refine m.l _ _ (⟨i.r.lt,i.m.q.2⟩) (λaI=>?_)
   try simp only[J]
   have aX:=aI
  all_goals
   refine RD 12 rfl (λv m=>?_);have ly:=i.e.size;refine LC ρ 55 #[.agg #[.slice q.a x.ss.length q.c,.slice q.a' x.ws.length q.c'],.int .i64 x.w] γ (t.l _ (i.m.q.1.1 o (λ_ _=>rfl)).h1.own.strs (i.m.q.1.1 o (λ_ _=>rfl)).h2.own.wrs s) ?_;rintro r y1 ⟨⟨L,N,M,O,rfl,aK,own,g1,g2,p⟩,g⟩;have bE:=g _ _ _ _ rfl;refine⟨_,rfl,?_⟩;unfold MV;have lb:=p.size;replace i:=i.z p;clear p g t;refine m.l _ _ (⟨i.r.lt,i.m.q.2⟩) (λaV=>?_)
   try simp only[J]
   refine RD 13 rfl (λv m=>?_);obtain⟨o1,ag,P,bG,aJ⟩:=sw (o:=o) (N:=w.heap.size) own (λg k=>by have:=g1 g k;omega) (λg k=>by have:=g2 g k;omega) h0 lS;refine LC ρ _ _ γ (B.l D L N M O o1 _ i.r (i.m.q.1.1 o1 ag) P bG aJ bE (i.m.map λW k=>k.1.2) hd aK) ?_;rintro r y2 ⟨rfl,q1,o2,S,T,W,g,k⟩;have aS:=Z k;clear k;refine⟨_,rfl,?_⟩;have lw:=i.e.size;have k:=OS i.e g;replace i:=i.put g S;clear B own;refine m.l _ _ (⟨i.r.lt,i.m.q.2⟩) (λaW=>?_)
   try simp only[J]
   refine DN ?_;have R:=Z (AH i.r T);have aR:=Z k;clear i T k S g;go_wp2;refine GH (v:=.tuple #[]) (by simp[results,results13]) rfl ⟨rfl,q1,o2,?_,?_,λb p=>(W b ω).j (ag b p),aR.l,by rw[z];exact aS.l⟩
   ·rw[z];exact R.l.1
   ·rw[z];exact R.l.2
 | true =>
  have z:x=X:=by rw[A.l];exact(ZA (by have:=F.l;omega) U.l (.inl (by rw[<-G.l];rfl))).symm
  clear A;subst z;have b:=Z i;clear i t B;go_wp2;exact GH (v:=.tuple #[]) (by simp[results,results13]) rfl ⟨rfl,q,o,b.l.r,b.l.m.q.1.1 o (λ_ _=>rfl),λ_ _=>rfl,b.l.e,aQ.l⟩
theorem xQ(x:Wo)(q:Wp)(e:Ev)(a:Option Addr)(c:Nat)(f:Option Addr)(d j:Nat)(l:Int)(o:Nat->Nat)(w:World)(E:Row w j (RP l x q))(h:RH x w q o)(X:o j=0)(C:x.rs.length<=q.cs)(hf:DepF w (λb=>b≠j) (λW=>Ints W f e.fs))(G:x.ok)(he:e.le)(z:e.K=3):Calls prog 15 #[.pointer (some ⟨j,0,none⟩),NH e a c f d] w λr g=>r=.returned (.tuple #[])/\ZF w g j l o (x.doE e):=by
 have lS:=E.lt;have m:=G.le;have hd:(QG x.W x.S x.L x.T x.H x.F x.R x.U x.O x.rs).ok:=by have:=G.call e;unfold Wo.call at this;simpa[z] using this
 have i:=(YI E (h.all X lS)).add hf;have v:=Z (λD1 H K I L o' g (F:Row g j (RP l x q)) h' h0' hs' hb' hbc hf' hd' hdc'=>qw x q e a c f d D1 H K I L j l o' g F h' h0' hs' hb' hbc hf' G hd' he ω C hdc');have aM:=Z C;unfold NH MV at v;unfold NH;have k:=Z (λg n=>Hj x.W x.S x.L x.T x.H x.F x.R x.U x.O q.s x.rs q.cs g n C m.l3 m.s3);unfold MM at k;obtain⟨T,t⟩:∃y,Hid (y=x.doE e):=⟨_,Z rfl⟩;rw[<-t.l];obtain⟨D,O⟩:∃D,Hid (D=QG x.W x.S x.L x.T x.H x.F x.R x.U x.O x.rs):=⟨_,Z rfl⟩;rw[<-O.l]at k hd;have S:Hid (x.call e=(D,x.up)):=Z (by rw[O.l];unfold Wo.call;simp[z]);have A:=Z z;clear E h hf m z;go_enter func15,ntmps15;go_upto_region 1 with fail;generalize m:w.alloc _=M;obtain⟨p,s,n⟩:=LF m;clear m;replace i:=(i.z p).add (UY n.q ω);clear n s;have n:=i.r.y 5;have N:=i.r.lt;have aV:=p.size
 obtain⟨u,B⟩:∃u,Hid (u=x.up):=⟨_,Z rfl⟩;rw[<-B.l]at n
 cases u with
 | false =>
  have s:x=T:=by rw[t.l];exact(ZA (by have:=A.l;omega) S.l (.inl (by rw[<-B.l]))).symm
  clear t;subst s;have m:=Z i;clear i k v;go_wp2;exact GH (v:=.tuple #[]) (by simp[results,results15]) rfl ⟨rfl,q,o,m.l.r,m.l.m.q.1.1 o (λ_ _=>rfl),λ_ _=>rfl,m.l.e,aM.l⟩
 | true =>
  have s:T=x.setE e D:=by rw[t.l];exact tu (by have:=A.l;omega) (by have:=A.l;omega) (by rw[S.l,<-B.l])
  go_upto_region 2 with fail;clear n N;replace i:=i.z (AC M.heap.size M).drew;replace p:=p.drew;refine AN (S:=λg=>j<g.heap.size/\Row g w.heap.size [.int .i64 e.K,.slice a e.b.length c,.int .i64 e.cut,.slice f e.fs.length d]) κ (⟨i.r.lt,i.m.q.2⟩) (λm=>?_);refine V 0 (.pointer (some ⟨j,0,none⟩)) rfl m (TK 1 (.agg #[.int .i64 e.K,.slice a e.b.length c,.int .i64 e.cut,.slice f e.fs.length d]) rfl (BW ⟨ρ,λw g=>by obtain⟨z0,N⟩:=g;exact RK 43 _ rfl _ 0 rfl _ _ N.range underlying43 rfl dm⟩) m (V 2 (.pointer (some ⟨j,0,none⟩)) rfl m (V 3 (.pointer (some ⟨j,0,none⟩)) rfl m (V 4 (.pointer (some ⟨j,2,none⟩)) rfl m (V 5 (.pointer (some ⟨j,6,none⟩)) rfl m ?_)))));simp only[J];refine RD 6 rfl (λP n=>?_);generalize g:M.drew=y at i p⊢;clear g;refine fy rfl 33 _ rfl j 6 rfl (sJ x.W x.S x.L x.T x.H x.F x.R x.U x.O (.slice q.s x.rs.length q.cs)) _ (Row.rangeMid (pre:=[.int .i32 l,.int .u32 0,.int .i64 x.w,.slice q.a x.ss.length q.c,.slice q.a' x.ws.length q.c',.bool x.up]) (cs:=(sJ x.W x.S x.L x.T x.H x.F x.R x.U x.O (.slice q.s x.rs.length q.cs))) (post:=[.slice q.p x.P.length q.cp,.slice q.t x.ts.length q.ct]) i.r) underlying33 rfl PC ?_
  refine n.l _ _ (⟨i.r.lt,i.m.q.2⟩) (λaQ=>?_)
  try simp only[J]
  refine RD 7 rfl (λP n=>?_);have ly:=i.e.size;refine LC ρ 57 #[.agg (sK x.W x.S x.L x.T x.H x.F x.R x.U x.O (.slice q.s x.rs.length q.cs))] γ (k.l _ (i.m.q.1.1 o (λ_ _=>rfl)).h3.own.prs) ?_;rintro r y1 ⟨⟨H,K,I,L,rfl,aH,own,g1,g2,g⟩,Q⟩;have aT:=Q _ _ _ _ rfl;refine⟨_,rfl,?_⟩;unfold MV;have lb:=g.size;replace i:=i.z g;clear g Q k;refine n.l _ _ (⟨i.r.lt,i.m.q.2⟩) (λaR=>?_)
  try simp only[J]
  refine RD 8 rfl (λP n=>?_);obtain⟨o1,U,N,aU,aG⟩:=sw (o:=o) (N:=w.heap.size) own (λg k=>by have:=g1 g k;omega) (λg k=>by have:=g2 g k;omega) X lS;refine LC ρ _ _ γ (v.l D H K I L o1 _ i.r (i.m.q.1.1 o1 U) N aU aG aT (i.m.map λW k=>k.1.2) hd aH) ?_;rintro r y2 ⟨rfl,q1,o2,Q,R,W,g,k⟩;have aO:=Z k;clear k;refine⟨_,rfl,?_⟩;have lw:=i.e.size;have k:=OS i.e g;replace i:=i.put g Q;clear v own;refine n.l _ _ (⟨i.r.lt,i.m.q.2⟩) (λaS=>?_)
  try simp only[J]
  refine DN ?_;have v:=Z (AH i.r R);have aN:=Z k;clear i R k Q g;go_wp2;refine GH (v:=.tuple #[]) (by simp[results,results15]) rfl ⟨rfl,q1,o2,?_,?_,λb g=>(W b ω).j (U b g),aN.l,by rw[s];exact aO.l⟩
  ·rw[s];exact v.l.1
  rw[s];exact v.l.2
theorem Co(x:Wo)(q:Wp)(e:Ev)(a:Option Addr)(c:Nat)(f:Option Addr)(d j:Nat)(l:Int)(o:Nat->Nat)(w:World)(E:Row w j (RP l x q))(h:RH x w q o)(X:o j=0)(C:x.rs.length<=q.cs)(hf:DepF w (λb=>b≠j) (λW=>Ints W f e.fs))(G:x.ok)(he:e.le)(z:e.K=4):Calls prog 16 #[.pointer (some ⟨j,0,none⟩),NH e a c f d] w λr g=>r=.returned (.tuple #[])/\ZF w g j l o (x.doE e):=by
 have lS:=E.lt;have m:=G.le;have hd:(PZ x.W x.S x.L x.T x.H x.F x.R x.U x.O x.rs).ok:=by have:=G.call e;unfold Wo.call at this;simpa[z] using this
 have i:=(YI E (h.all X lS)).add hf;have v:=Z (λD1 H K I L o' g (F:Row g j (RP l x q)) h' h0' hs' hb' hbc hf' hd' hdc'=>qw x q e a c f d D1 H K I L j l o' g F h' h0' hs' hb' hbc hf' G hd' he ω C hdc');have aM:=Z C;unfold NH MV at v;unfold NH;have k:=Z (λg n=>UV x.W x.S x.L x.T x.H x.F x.R x.U x.O q.s x.rs q.cs g n C m.l3 m.s3);unfold MM at k;obtain⟨T,t⟩:∃y,Hid (y=x.doE e):=⟨_,Z rfl⟩;rw[<-t.l];obtain⟨D,O⟩:∃D,Hid (D=PZ x.W x.S x.L x.T x.H x.F x.R x.U x.O x.rs):=⟨_,Z rfl⟩;rw[<-O.l]at k hd;have S:Hid (x.call e=(D,x.up)):=Z (by rw[O.l];unfold Wo.call;simp[z]);have A:=Z z;clear E h hf m z;go_enter func16,ntmps16;go_upto_region 1 with fail;generalize m:w.alloc _=M;obtain⟨p,s,n⟩:=LF m;clear m;replace i:=(i.z p).add (UY n.q ω);clear n s;have n:=i.r.y 5;have N:=i.r.lt
 have aV:=p.size;obtain⟨u,B⟩:∃u,Hid (u=x.up):=⟨_,Z rfl⟩;rw[<-B.l]at n
 cases u with
 | false =>
  have s:x=T:=by rw[t.l];exact(ZA (by have:=A.l;omega) S.l (.inl (by rw[<-B.l]))).symm
  clear t;subst s;have m:=Z i;clear i k v;go_wp2;exact GH (v:=.tuple #[]) (by simp[results,results16]) rfl ⟨rfl,q,o,m.l.r,m.l.m.q.1.1 o (λ_ _=>rfl),λ_ _=>rfl,m.l.e,aM.l⟩
 | true =>
  have s:T=x.setE e D:=by rw[t.l];exact tu (by have:=A.l;omega) (by have:=A.l;omega) (by rw[S.l,<-B.l])
  go_upto_region 2 with fail;clear n N;replace i:=i.z (AC M.heap.size M).drew;replace p:=p.drew;refine AN (S:=λg=>j<g.heap.size/\Row g w.heap.size [.int .i64 e.K,.slice a e.b.length c,.int .i64 e.cut,.slice f e.fs.length d]) κ (⟨i.r.lt,i.m.q.2⟩) (λm=>?_);refine V 0 (.pointer (some ⟨j,0,none⟩)) rfl m (TK 1 (.agg #[.int .i64 e.K,.slice a e.b.length c,.int .i64 e.cut,.slice f e.fs.length d]) rfl (BW ⟨ρ,λw g=>by obtain⟨z0,N⟩:=g;exact RK 43 _ rfl _ 0 rfl _ _ N.range underlying43 rfl dm⟩) m (V 2 (.pointer (some ⟨j,0,none⟩)) rfl m (V 3 (.pointer (some ⟨j,0,none⟩)) rfl m (V 4 (.pointer (some ⟨j,2,none⟩)) rfl m (V 5 (.pointer (some ⟨j,6,none⟩)) rfl m ?_)))));simp only[J];refine RD 6 rfl (λP n=>?_);generalize g:M.drew=y at i p⊢;clear g;refine fy rfl 33 _ rfl j 6 rfl (sJ x.W x.S x.L x.T x.H x.F x.R x.U x.O (.slice q.s x.rs.length q.cs)) _ (Row.rangeMid (pre:=[.int .i32 l,.int .u32 0,.int .i64 x.w,.slice q.a x.ss.length q.c,.slice q.a' x.ws.length q.c',.bool x.up]) (cs:=(sJ x.W x.S x.L x.T x.H x.F x.R x.U x.O (.slice q.s x.rs.length q.cs))) (post:=[.slice q.p x.P.length q.cp,.slice q.t x.ts.length q.ct]) i.r) underlying33 rfl PC ?_
  refine n.l _ _ (⟨i.r.lt,i.m.q.2⟩) (λaQ=>?_)
  try simp only[J]
  refine RD 7 rfl (λP n=>?_);have ly:=i.e.size;refine LC ρ 58 #[.agg (sK x.W x.S x.L x.T x.H x.F x.R x.U x.O (.slice q.s x.rs.length q.cs))] γ (k.l _ (i.m.q.1.1 o (λ_ _=>rfl)).h3.own.prs) ?_;rintro r y1 ⟨⟨H,K,I,L,rfl,aH,own,g1,g2,g⟩,Q⟩;have aT:=Q _ _ _ _ rfl;refine⟨_,rfl,?_⟩;unfold MV;have lb:=g.size;replace i:=i.z g;clear g Q k;refine n.l _ _ (⟨i.r.lt,i.m.q.2⟩) (λaR=>?_)
  try simp only[J]
  refine RD 8 rfl (λP n=>?_);obtain⟨o1,U,N,aU,aG⟩:=sw (o:=o) (N:=w.heap.size) own (λg k=>by have:=g1 g k;omega) (λg k=>by have:=g2 g k;omega) X lS;refine LC ρ _ _ γ (v.l D H K I L o1 _ i.r (i.m.q.1.1 o1 U) N aU aG aT (i.m.map λW k=>k.1.2) hd aH) ?_;rintro r y2 ⟨rfl,q1,o2,Q,R,W,g,k⟩;have aO:=Z k;clear k;refine⟨_,rfl,?_⟩;have lw:=i.e.size;have k:=OS i.e g;replace i:=i.put g Q;clear v own;refine n.l _ _ (⟨i.r.lt,i.m.q.2⟩) (λaS=>?_)
  try simp only[J]
  refine DN ?_;have v:=Z (AH i.r R);have aN:=Z k;clear i R k Q g;go_wp2;refine GH (v:=.tuple #[]) (by simp[results,results16]) rfl ⟨rfl,q1,o2,?_,?_,λb g=>(W b ω).j (U b g),aN.l,by rw[s];exact aO.l⟩
  ·rw[s];exact v.l.1
  rw[s];exact v.l.2
