import Derived.Test.YtmlejnbjclkdjaaGreatDoorPrG32
import Derived.Test.YtmlejnbjclkdjaaGreatDoorPrOpI
set_option maxHeartbeats 16000000
set_option maxRecDepth 8000
set_option linter.all false
namespace Go.Proofs.YtmlejnbjclkdjaaGreatDoor
open Tryz
open Go.RowKit
theorem ZQ:(prog.info? 45).map (·.size)=some 4:=κ
theorem Kb{w:Nb}{o:Nat->Nat}{g:Nat}{a:M6}{c:Nat}{b:List Pr}(d:Row w g [.slice a b.length c])(e:o g=5)(h:OwL w o 7 a (MC b)):XJ w o (Mw g 0) [b] :=.inr ⟨g,rfl,d.lt,e,λi f=>by
  obtain rfl:i=0:=by simpa using f
  exact⟨a,c,d.y 0,h⟩⟩
def Wo.setE(x:Wo)(e:Ev)(D:Dd):Wo:=if x.runB e D=true then { x.runE e D with P:=[D.rs] } else x.runE e D
theorem qe(x:Wo)(q:Wp)(e:Ev)(a:M6)(c:Nat)(f:M6)(d:Nat)(D:Dd)(v:M6)(z:Nat)(C:M6)(E m:Nat)(l:Int)(o:Nat->Nat)(w:Nb)(O:Row w m (ST l x q))(h:RE x w q o)(F:o m=0)(hs:OwL w o 3 v (MC D.rs))(n:OwL w o 6 C (OO D.ops))(aW:D.ops.length<=E)(hf:DepF w (λb=>b≠m) (λW=>Ints W f e.fs))(ho:x.ok)(Q:D.ok)(he:e.le)(hK:e.K≠2)(V:x.rs.length<=q.cs)(X:D.rs.length<=z):Calls prog 64 #[Mv m 0,OD e a c f d,NZ D v z C E] w λr g=>r=M3 (.tuple #[])/\YV w g m l o (x.setE e D):=by
 have lS:=O.lt;have i:NW x e D=x.P:=AG hK;have bC:=(VC Q.1).1;have j:=((YA O (h.depF F)).add (hs.depF ω F)).add ((n.depF ω F).and hf);have s:=Z (λg t k A u y=>uN x q e a c f d D v z C E q.p q.cp m l o g t k F (by rw[i];exact k.h4) A u aW y ho Q he V X);rw[i]at s;unfold OD NZ at s⊢;clear O h hs n hf ho Q he i hK V X;obtain⟨i,k⟩:∃y,Hid (y=x.runE e D):=⟨_,Z rfl⟩;obtain⟨S,u⟩:∃y,Hid (y=x.runB e D):=⟨_,Z rfl⟩;rw[<-k.l,<-u.l]at s;obtain⟨aP,t⟩:∃y,Hid (y=x.setE e D):=⟨_,Z rfl⟩;rw[<-t.l];have A:Hid (aP=if S=true then { i with P:=[D.rs] } else i):=Z (by rw[t.l,k.l,u.l];rfl);clear t k u;go_enter func64,ntmps64;go_upto_region 1 with fail;generalize k:w.alloc _=v1;obtain⟨H,B,I⟩:=LY k;clear k;generalize u:v1.alloc _=R;obtain⟨k,G,t⟩:=LY u;clear u;rw[B]at t G;replace j:=(((j.I H).I k).add (LZ (I.I k).q ω)).add (LZ t.q ω)
 clear H k I t B G;replace j:=j.I (AB R.heap.size R).drew;refine AN (S:=λg=>m<g.heap.size/\Row g w.heap.size [.int .i64 e.K,.slice a e.b.length c,.int .i64 e.cut,.slice f e.fs.length d]/\Row g (w.heap.size+1) (dJ D.C D.W D.S D.L D.T D.H D.F D.R D.U D.O (.slice v D.rs.length z) (.slice C D.ops.length E))) κ (⟨j.r.lt,j.m.q.1.2,j.m.q.2⟩) (λu=>?_);refine TY 0 (Mv m 0) rfl u (TK 1 (.agg #[.int .i64 e.K,.slice a e.b.length c,.int .i64 e.cut,.slice f e.fs.length d]) rfl (BO ⟨ρ,λw g=>by obtain⟨z0,I,z2⟩:=g;exact LJ 45 _ rfl _ 0 rfl _ _ I.range underlying45 rfl ZQ⟩) u (TK 2 (.agg (dK D.C D.W D.S D.L D.T D.H D.F D.R D.U D.O (.slice v D.rs.length z) (.slice C D.ops.length E))) rfl (BO ⟨ρ,λw g=>by obtain⟨z0,I,z2⟩:=g;exact LJ 99 _ rfl _ 0 rfl _ _ z2.range underlying99 rfl UB⟩) u (TY 3 (Mv m 0) rfl u (TY 4 (Mv m 0) rfl u (TY 5 (Mv m 2) rfl u (TY 6 (Mv m 16) rfl u ?_))))))
 simp only[PS];refine RD 7 rfl (λKq K=>?_);generalize g:R.drew=y at j⊢;clear g;have c16:=j.r.y 16;go_simp;clear c16;refine K.l _ _ (⟨j.r.lt,j.m.q.1.2,j.m.q.2⟩) (λaS=>?_)
 try simp only[PS]
 refine RD 8 rfl (λKq K=>?_);refine LW ρ 66 #[Mv m 0,.agg #[.int .i64 e.K,.slice a e.b.length c,.int .i64 e.cut,.slice f e.fs.length d],.agg (dK D.C D.W D.S D.L D.T D.H D.F D.R D.U D.O (.slice v D.rs.length z) (.slice C D.ops.length E)),.slice q.p x.P.length q.cp] γ (s.l _ j.r j.m.q.1.1.1.1 j.m.q.1.1.1.2 j.m.q.1.1.2.1 (j.m.map λW k=>k.1.1.2.2)) ?_;rintro r H ⟨rfl,q1,G,L,g,J,t,B⟩;have U:=Z B;clear B;refine⟨_,rfl,?_⟩;have lw:=j.e.size;replace j:=j.put t L;have l1:=t.size;clear t L s;refine K.l _ _ (⟨j.r.lt,j.m.q.1.2,j.m.q.2⟩) (λaT=>?_)
 try simp only[PS]
 refine DN ?_;have I:G m=0:=(J m ω).j F
 cases S with
 | false =>
  have s:=Z j;have B:=Z g;clear j g;go_wp2;refine GO (v:=.tuple #[]) (by simp[results,results64]) rfl ⟨rfl,q1,G,?_,?_,λb n=>J b ω,s.l.e,by rw[A.l];exact U.l⟩
  ·rw[A.l];exact s.l.r
  rw[A.l];exact B.l
 | true =>
  have ly:m<H.heap.size:=j.r.lt;replace j:=j.add (g.all I ly);clear g;have t:=Z (ZF v D.rs z H j.m.q.1.1.1.1.2.own.prs ω);unfold MH at t;have g:=j.m.q.1.2.y 10;have s:=j.m.q.1.2.lt;go_wp2_with fail;clear g s;refine t.l.z ?_;rintro r s ⟨T,W,rfl,aZ,B,N,n⟩;replace j:=j.I n;have l2:=n.size;have d5:=VD B (λL M=>L (by rw[AC M];rfl)) N ly
  have g6:=λg k=>ZK (g:=g) B k
  replace j:=j.add d5;unfold MH;clear t n B d5;have c16:=j.r.y 16;have f16:=j.r.A 16;have t:=j.r.lt;go_wp2;clear c16 f16 t;have t:=j.set 16 σ (.slice (Mw s.heap.size 0) 1 1);have zs:(s.setCell ⟨m,16,none⟩ (.slice (Mw s.heap.size 0) 1 1)).heap.size=s.heap.size:=BH _ _ _;generalize B:s.setCell _ _=y3 at t zs⊢;clear B j;have rN:=MT y3 #[.slice T D.rs.length W] 31;rw[zs]at rN;replace t:=t.I (LO y3 (.cells #[.slice T D.rs.length W] 31))
  have j:∀b,b<H.heap.size->(λb=>if b<H.heap.size then G b else if b=s.heap.size then 5 else 7) b=G b:=λb n=>AE n
  have B:=t.m.q.1.2 _ j;refine GO (v:=.tuple #[]) (by simp[results,results64]) rfl ⟨rfl,{ q1 with p:=Mw s.heap.size 0,cp:=1 },_,?_,?_,λb n=>(j b ω).j (J b ω),t.e,by rw[A.l];exact U.l⟩
  ·rw[A.l];exact t.r
  rw[A.l];exact⟨B.h1,B.h2,B.h3,Kb rN τ (TW t.m.q.2 (λL M=>L (by rw[AC M];rfl)) N (λg k=>by have b:=N g k;have h2:=g6 g k;show(if g<H.heap.size then G g else if g=s.heap.size then 5 else 7)=7;rw[AG ω,AG ω])),B.h5⟩
theorem tm{x:Wo}{e:Ev}{D:Dd}(b:e.K≠5)(h:e.K≠2)(c:x.call e=(D,true)):x.doE e=x.setE e D:=by
 by_cases d:D.C≠0\/200<(NW x e D).length\/2000<(PW x e D).length
 ·have f:x.runB e D=false:=by unfold Wo.runB;rw[AE d]
  have g:x.runE e D=x:=by unfold Wo.runE;rw[AE d]
  unfold Wo.setE;rw[f,g]
  by_cases a:D.C=0
  ·exact un b c a ω
  exact YR b c (.inr a)
 have a:D.C=0:=ω
 have f:x.runB e D=!RF e D:=by unfold Wo.runB;rw[AG d]
 have g:x.runE e D=if RF e D=true then (x.ran e D).pow e.fs else (x.ran e D).upS D:=by unfold Wo.runE;rw[AG d]
 unfold Wo.setE;rw[f,g]
 cases hb:RF e D with
 | true=>exact xa b c a ω hb
 | false=>exact uD b c a ω hb h
theorem sk{w:Nb}{o:Nat->Nat}{N f:Nat}{c:List Pr}{i:List OpT}{a b:M6}(h:OwnDn w c i a b)(j:∀g,blk a c.length=some g->N<=g)(l:∀g,blk b i.length=some g->N<=g)(m:o f=0)(n:f<N):∃d:Nat->Nat,(∀x,x<N->d x=o x)/\d f=0/\OwL w d 3 a (MC c)/\OwL w d 6 b (OO i):=by
 refine⟨λx=>if x<N then o x else if blk a c.length=some x then 3 else 6,λx d=>AE d,(AE n).j m,TW h.s SM j (λg k=>?_),TW h.p jk l (λg k=>?_)⟩
 ·show(if g<N then o g else if blk a c.length=some g then 3 else 6)=3
  rw[AG (by have:=j g k;omega),AE k]
 show(if g<N then o g else if blk a c.length=some g then 3 else 6)=6
 rw[AG (by have:=l g k;omega),AG (λe=>by rcases h.ne with h|h|h;rw[h]at e;cases e;rw[h]at k;cases k;exact h (e.j k.symm))]
theorem Bo(x:Wo)(q:Wp)(e:Ev)(a:M6)(c:Nat)(f:M6)(d j:Nat)(l:Int)(o:Nat->Nat)(w:Nb)(H:Row w j (ST l x q))(h:RE x w q o)(h0:o j=0)(V:x.rs.length<=q.cs)(hf:DepF w (λb=>b≠j) (λW=>Ints W f e.fs))(J:x.ok)(he:e.le)(C:e.K=1)(ty:TypeId)(gv:Nc)(aZ:w.cell? ⟨1,0,none⟩=some (.iface ty gv))(aY:w.cell? ⟨0,0,none⟩=some (.iface 200 (.agg #[Mv 3 91])))(X:1<w.heap.size):Calls prog 27 #[Mv j 0,OD e a c f d] w λr g=>r=M3 (.tuple #[])/\YV w g j l o (x.doE e):=by
 have lS:=H.lt;have k:=J.le;have hd:(OP x.ss x.ws x.w).ok:=by have:=J.call e;unfold Wo.call at this;simpa[C] using this
 have i:=(YA H (h.all h0 lS)).add hf;have B:=Z (λD1 K M L N o' g (I:Row g j (ST l x q)) h' h0' hs' hb' hbc hf' hd' hdc'=>qe x q e a c f d D1 K M L N j l o' g I h' h0' hs' hb' hbc hf' J hd' he ω V hdc');have aQ:=Z V;unfold OD NZ at B;unfold OD;have t:=Z (λg h1 h2 (p:Below w.heap.size w g)=>pO q.a x.ss q.c q.a' x.ws q.c' x.w g h1 h2 k.l1 k.l2 k.s1 k.s2 ty gv ((p.cell (p:=⟨1,0,none⟩) X).j aZ) ((p.cell (p:=⟨0,0,none⟩) (by show 0<_;omega)).j aY) (AD X p.size));unfold LF at t;obtain⟨U,A⟩:∃y,Hid (y=x.doE e):=⟨_,Z rfl⟩;rw[<-A.l];obtain⟨D,P⟩:∃D,Hid (D=OP x.ss x.ws x.w):=⟨_,Z rfl⟩;rw[<-P.l]at t hd;have T:Hid (x.call e=(D,!x.up)):=Z (by rw[P.l];unfold Wo.call;simp[C]);have F:=Z C;clear H h hf k C;go_enter func27,ntmps27;go_upto_region 1 with fail;generalize k:w.alloc _=E;obtain⟨s,n,m⟩:=LY k
 clear k;replace i:=(i.I s).add (LZ m.q ω);clear m n;have c5:=i.r.y 5;have cl:=i.r.lt;have bG:=s.size;obtain⟨u,G⟩:∃u,Hid (u=x.up):=⟨_,Z rfl⟩;rw[<-G.l]at c5
 cases u with
 | false =>
  have z:U=x.setE e D:=by rw[A.l];exact tm (by have:=F.l;omega) (by have:=F.l;omega) (by rw[T.l,<-G.l];rfl)
  go_upto_region 2 with fail;clear c5 cl;replace i:=i.I (AB E.heap.size E).drew;replace s:=s.drew;refine AN (S:=λg=>j<g.heap.size/\Row g w.heap.size [.int .i64 e.K,.slice a e.b.length c,.int .i64 e.cut,.slice f e.fs.length d]) κ (⟨i.r.lt,i.m.q.2⟩) (λn=>?_);refine TY 0 (Mv j 0) rfl n (TK 1 (.agg #[.int .i64 e.K,.slice a e.b.length c,.int .i64 e.cut,.slice f e.fs.length d]) rfl (BO ⟨ρ,λw g=>by obtain⟨z0,O⟩:=g;exact LJ 45 _ rfl _ 0 rfl _ _ O.range underlying45 rfl ZQ⟩) n (TY 2 (Mv j 0) rfl n (TY 3 (Mv j 0) rfl n (TY 4 (Mv j 2) rfl n (TY 5 (Mv j 3) rfl n (TY 7 (Mv j 0) rfl n (TY 8 (Mv j 0) rfl n (TY 9 (Mv j 2) rfl n (TY 10 (Mv j 2) rfl n ?_)))))))))
  simp only[PS];refine EF (rs:=[6,11]) κ σ ?_;refine BK rfl (λv m=>?_) (BK rfl (λv m=>?_) DX)
  focus
   generalize g:E.drew=y at i s⊢;clear g;have g:=i.r.y 3;have k:=i.r.y 4;go_simp;clear g k;refine m.l _ _ (⟨i.r.lt,i.m.q.2⟩) (λaT=>?_)
   try simp only[PS]
   refine RD 11 rfl (λv m=>?_);have g:=i.r.y 2;go_simp;clear g;refine m.l _ _ (⟨i.r.lt,i.m.q.2⟩) (λaH=>?_)
   try simp only[PS]
   have aX:=aH
  rotate_left
  focus
   generalize g:E.drew=y at i s⊢;clear g;have g:=i.r.y 2;go_simp;clear g;refine m.l _ _ (⟨i.r.lt,i.m.q.2⟩) (λaU=>?_)
   try simp only[PS]
   refine RD 6 rfl (λv m=>?_);have g:=i.r.y 3;have k:=i.r.y 4;go_simp;clear g k;refine m.l _ _ (⟨i.r.lt,i.m.q.2⟩) (λaI=>?_)
   try simp only[PS]
   have aX:=aI
  all_goals
   refine RD 12 rfl (λv m=>?_);have ly:=i.e.size;refine LW ρ 48 #[.agg #[.slice q.a x.ss.length q.c,.slice q.a' x.ws.length q.c'],.int .i64 x.w] γ (t.l _ (i.m.q.1.1 o (λ_ _=>rfl)).h1.own.strs (i.m.q.1.1 o (λ_ _=>rfl)).h2.own.wrs s) ?_;rintro r y1 ⟨⟨K,M,L,N,rfl,aK,own,g1,g2,p⟩,g⟩;have bC:=g _ _ _ _ rfl;refine⟨_,rfl,?_⟩;unfold NZ;have lb:=p.size;replace i:=i.I p;clear p g t;refine m.l _ _ (⟨i.r.lt,i.m.q.2⟩) (λaV=>?_)
   try simp only[PS]
   refine RD 13 rfl (λv m=>?_);obtain⟨o1,ag,O,bE,aJ⟩:=sk (o:=o) (N:=w.heap.size) own (λg k=>by have:=g1 g k;omega) (λg k=>by have:=g2 g k;omega) h0 lS;refine LW ρ _ _ γ (B.l D K M L N o1 _ i.r (i.m.q.1.1 o1 ag) O bE aJ bC (i.m.map λW k=>k.1.2) hd aK) ?_;rintro r y2 ⟨rfl,q1,o2,R,S,W,g,k⟩;have aS:=Z k;clear k;refine⟨_,rfl,?_⟩;have lw:=i.e.size;have k:=QG i.e g;replace i:=i.put g R;clear B own;refine m.l _ _ (⟨i.r.lt,i.m.q.2⟩) (λaW=>?_)
   try simp only[PS]
   refine DN ?_;have Q:=Z (AH i.r S);have aR:=Z k;clear i S k R g;go_wp2;refine GO (v:=.tuple #[]) (by simp[results,results27]) rfl ⟨rfl,q1,o2,?_,?_,λb p=>(W b ω).j (ag b p),aR.l,by rw[z];exact aS.l⟩
   ·rw[z];exact Q.l.1
   ·rw[z];exact Q.l.2
 | true =>
  have z:x=U:=by rw[A.l];exact(YR (by have:=F.l;omega) T.l (.inl (by rw[<-G.l];rfl))).symm
  clear A;subst z;have b:=Z i;clear i t B;go_wp2;exact GO (v:=.tuple #[]) (by simp[results,results27]) rfl ⟨rfl,q,o,b.l.r,b.l.m.q.1.1 o (λ_ _=>rfl),λ_ _=>rfl,b.l.e,aQ.l⟩
theorem yQ(x:Wo)(q:Wp)(e:Ev)(a:M6)(c:Nat)(f:M6)(d j:Nat)(l:Int)(o:Nat->Nat)(w:Nb)(E:Row w j (ST l x q))(h:RE x w q o)(U:o j=0)(C:x.rs.length<=q.cs)(X:DepF w (λb=>b≠j) (λW=>Ints W f e.fs))(G:x.ok)(he:e.le)(z:e.K=3):Calls prog 29 #[Mv j 0,OD e a c f d] w λr g=>r=M3 (.tuple #[])/\YV w g j l o (x.doE e):=by
 have lS:=E.lt;have m:=G.le;have V:(RQ x.W x.S x.L x.T x.H x.F x.R x.U x.O x.rs).ok:=by have:=G.call e;unfold Wo.call at this;simpa[z] using this
 have i:=(YA E (h.all U lS)).add X;have v:=Z (λD1 H J I K o' g (F:Row g j (ST l x q)) h' h0' hs' hb' hbc hf' hd' hdc'=>qe x q e a c f d D1 H J I K j l o' g F h' h0' hs' hb' hbc hf' G hd' he ω C hdc');have aM:=Z C;unfold OD NZ at v;unfold OD;have k:=Z (λg n=>Jp x.W x.S x.L x.T x.H x.F x.R x.U x.O q.s x.rs q.cs g n C m.l3 m.s3);unfold NK at k;obtain⟨S,t⟩:∃y,Hid (y=x.doE e):=⟨_,Z rfl⟩;rw[<-t.l];obtain⟨D,N⟩:∃D,Hid (D=RQ x.W x.S x.L x.T x.H x.F x.R x.U x.O x.rs):=⟨_,Z rfl⟩;rw[<-N.l]at k V;have R:Hid (x.call e=(D,x.up)):=Z (by rw[N.l];unfold Wo.call;simp[z]);have A:=Z z;clear E h X m z;go_enter func29,ntmps29;go_upto_region 1 with fail;generalize m:w.alloc _=L;obtain⟨p,s,n⟩:=LY m;clear m;replace i:=(i.I p).add (LZ n.q ω);clear n s;have n:=i.r.y 5;have M:=i.r.lt
 have aV:=p.size;obtain⟨u,B⟩:∃u,Hid (u=x.up):=⟨_,Z rfl⟩;rw[<-B.l]at n
 cases u with
 | false =>
  have s:x=S:=by rw[t.l];exact(YR (by have:=A.l;omega) R.l (.inl (by rw[<-B.l]))).symm
  clear t;subst s;have m:=Z i;clear i k v;go_wp2;exact GO (v:=.tuple #[]) (by simp[results,results29]) rfl ⟨rfl,q,o,m.l.r,m.l.m.q.1.1 o (λ_ _=>rfl),λ_ _=>rfl,m.l.e,aM.l⟩
 | true =>
  have s:S=x.setE e D:=by rw[t.l];exact tm (by have:=A.l;omega) (by have:=A.l;omega) (by rw[R.l,<-B.l])
  go_upto_region 2 with fail;clear n M;replace i:=i.I (AB L.heap.size L).drew;replace p:=p.drew;refine AN (S:=λg=>j<g.heap.size/\Row g w.heap.size [.int .i64 e.K,.slice a e.b.length c,.int .i64 e.cut,.slice f e.fs.length d]) κ (⟨i.r.lt,i.m.q.2⟩) (λm=>?_);refine TY 0 (Mv j 0) rfl m (TK 1 (.agg #[.int .i64 e.K,.slice a e.b.length c,.int .i64 e.cut,.slice f e.fs.length d]) rfl (BO ⟨ρ,λw g=>by obtain⟨z0,M⟩:=g;exact LJ 45 _ rfl _ 0 rfl _ _ M.range underlying45 rfl ZQ⟩) m (TY 2 (Mv j 0) rfl m (TY 3 (Mv j 0) rfl m (TY 4 (Mv j 2) rfl m (TY 5 (Mv j 6) rfl m ?_)))));simp only[PS];refine RD 6 rfl (λO n=>?_);generalize g:L.drew=y at i p⊢;clear g;refine MY rfl 33 _ rfl j 6 rfl (sJ x.W x.S x.L x.T x.H x.F x.R x.U x.O (.slice q.s x.rs.length q.cs)) _ (Row.rangeMid (pre:=[.int .i32 l,.int .u32 0,.int .i64 x.w,.slice q.a x.ss.length q.c,.slice q.a' x.ws.length q.c',M0 x.up]) (cs:=(sJ x.W x.S x.L x.T x.H x.F x.R x.U x.O (.slice q.s x.rs.length q.cs))) (post:=[.slice q.p x.P.length q.cp,.slice q.t x.ts.length q.ct]) i.r) underlying33 rfl QI ?_
  refine n.l _ _ (⟨i.r.lt,i.m.q.2⟩) (λaQ=>?_)
  try simp only[PS]
  refine RD 7 rfl (λO n=>?_);have ly:=i.e.size;refine LW ρ 67 #[.agg (sK x.W x.S x.L x.T x.H x.F x.R x.U x.O (.slice q.s x.rs.length q.cs))] γ (k.l _ (i.m.q.1.1 o (λ_ _=>rfl)).h3.own.prs) ?_;rintro r y1 ⟨⟨H,J,I,K,rfl,aH,own,g1,g2,g⟩,P⟩;have aT:=P _ _ _ _ rfl;refine⟨_,rfl,?_⟩;unfold NZ;have lb:=g.size;replace i:=i.I g;clear g P k;refine n.l _ _ (⟨i.r.lt,i.m.q.2⟩) (λaR=>?_)
  try simp only[PS]
  refine RD 8 rfl (λO n=>?_);obtain⟨o1,T,M,aU,aG⟩:=sk (o:=o) (N:=w.heap.size) own (λg k=>by have:=g1 g k;omega) (λg k=>by have:=g2 g k;omega) U lS;refine LW ρ _ _ γ (v.l D H J I K o1 _ i.r (i.m.q.1.1 o1 T) M aU aG aT (i.m.map λW k=>k.1.2) V aH) ?_;rintro r y2 ⟨rfl,q1,o2,P,Q,W,g,k⟩;have aO:=Z k;clear k;refine⟨_,rfl,?_⟩;have lw:=i.e.size;have k:=QG i.e g;replace i:=i.put g P;clear v own;refine n.l _ _ (⟨i.r.lt,i.m.q.2⟩) (λaS=>?_)
  try simp only[PS]
  refine DN ?_;have v:=Z (AH i.r Q);have aN:=Z k;clear i Q k P g;go_wp2;refine GO (v:=.tuple #[]) (by simp[results,results29]) rfl ⟨rfl,q1,o2,?_,?_,λb g=>(W b ω).j (T b g),aN.l,by rw[s];exact aO.l⟩
  ·rw[s];exact v.l.1
  rw[s];exact v.l.2
theorem Dz(x:Wo)(q:Wp)(e:Ev)(a:M6)(c:Nat)(f:M6)(d j:Nat)(l:Int)(o:Nat->Nat)(w:Nb)(E:Row w j (ST l x q))(h:RE x w q o)(U:o j=0)(C:x.rs.length<=q.cs)(X:DepF w (λb=>b≠j) (λW=>Ints W f e.fs))(G:x.ok)(he:e.le)(z:e.K=4):Calls prog 30 #[Mv j 0,OD e a c f d] w λr g=>r=M3 (.tuple #[])/\YV w g j l o (x.doE e):=by
 have lS:=E.lt;have m:=G.le;have V:(QX x.W x.S x.L x.T x.H x.F x.R x.U x.O x.rs).ok:=by have:=G.call e;unfold Wo.call at this;simpa[z] using this
 have i:=(YA E (h.all U lS)).add X;have v:=Z (λD1 H J I K o' g (F:Row g j (ST l x q)) h' h0' hs' hb' hbc hf' hd' hdc'=>qe x q e a c f d D1 H J I K j l o' g F h' h0' hs' hb' hbc hf' G hd' he ω C hdc');have aM:=Z C;unfold OD NZ at v;unfold OD;have k:=Z (λg n=>VG x.W x.S x.L x.T x.H x.F x.R x.U x.O q.s x.rs q.cs g n C m.l3 m.s3);unfold NK at k;obtain⟨S,t⟩:∃y,Hid (y=x.doE e):=⟨_,Z rfl⟩;rw[<-t.l];obtain⟨D,N⟩:∃D,Hid (D=QX x.W x.S x.L x.T x.H x.F x.R x.U x.O x.rs):=⟨_,Z rfl⟩;rw[<-N.l]at k V;have R:Hid (x.call e=(D,x.up)):=Z (by rw[N.l];unfold Wo.call;simp[z]);have A:=Z z;clear E h X m z;go_enter func30,ntmps30;go_upto_region 1 with fail;generalize m:w.alloc _=L;obtain⟨p,s,n⟩:=LY m;clear m;replace i:=(i.I p).add (LZ n.q ω);clear n s;have n:=i.r.y 5;have M:=i.r.lt
 have aV:=p.size;obtain⟨u,B⟩:∃u,Hid (u=x.up):=⟨_,Z rfl⟩;rw[<-B.l]at n
 cases u with
 | false =>
  have s:x=S:=by rw[t.l];exact(YR (by have:=A.l;omega) R.l (.inl (by rw[<-B.l]))).symm
  clear t;subst s;have m:=Z i;clear i k v;go_wp2;exact GO (v:=.tuple #[]) (by simp[results,results30]) rfl ⟨rfl,q,o,m.l.r,m.l.m.q.1.1 o (λ_ _=>rfl),λ_ _=>rfl,m.l.e,aM.l⟩
 | true =>
  have s:S=x.setE e D:=by rw[t.l];exact tm (by have:=A.l;omega) (by have:=A.l;omega) (by rw[R.l,<-B.l])
  go_upto_region 2 with fail;clear n M;replace i:=i.I (AB L.heap.size L).drew;replace p:=p.drew;refine AN (S:=λg=>j<g.heap.size/\Row g w.heap.size [.int .i64 e.K,.slice a e.b.length c,.int .i64 e.cut,.slice f e.fs.length d]) κ (⟨i.r.lt,i.m.q.2⟩) (λm=>?_);refine TY 0 (Mv j 0) rfl m (TK 1 (.agg #[.int .i64 e.K,.slice a e.b.length c,.int .i64 e.cut,.slice f e.fs.length d]) rfl (BO ⟨ρ,λw g=>by obtain⟨z0,M⟩:=g;exact LJ 45 _ rfl _ 0 rfl _ _ M.range underlying45 rfl ZQ⟩) m (TY 2 (Mv j 0) rfl m (TY 3 (Mv j 0) rfl m (TY 4 (Mv j 2) rfl m (TY 5 (Mv j 6) rfl m ?_)))));simp only[PS];refine RD 6 rfl (λO n=>?_);generalize g:L.drew=y at i p⊢;clear g;refine MY rfl 33 _ rfl j 6 rfl (sJ x.W x.S x.L x.T x.H x.F x.R x.U x.O (.slice q.s x.rs.length q.cs)) _ (Row.rangeMid (pre:=[.int .i32 l,.int .u32 0,.int .i64 x.w,.slice q.a x.ss.length q.c,.slice q.a' x.ws.length q.c',M0 x.up]) (cs:=(sJ x.W x.S x.L x.T x.H x.F x.R x.U x.O (.slice q.s x.rs.length q.cs))) (post:=[.slice q.p x.P.length q.cp,.slice q.t x.ts.length q.ct]) i.r) underlying33 rfl QI ?_
  refine n.l _ _ (⟨i.r.lt,i.m.q.2⟩) (λaQ=>?_)
  try simp only[PS]
  refine RD 7 rfl (λO n=>?_);have ly:=i.e.size;refine LW ρ 68 #[.agg (sK x.W x.S x.L x.T x.H x.F x.R x.U x.O (.slice q.s x.rs.length q.cs))] γ (k.l _ (i.m.q.1.1 o (λ_ _=>rfl)).h3.own.prs) ?_;rintro r y1 ⟨⟨H,J,I,K,rfl,aH,own,g1,g2,g⟩,P⟩;have aT:=P _ _ _ _ rfl;refine⟨_,rfl,?_⟩;unfold NZ;have lb:=g.size;replace i:=i.I g;clear g P k;refine n.l _ _ (⟨i.r.lt,i.m.q.2⟩) (λaR=>?_)
  try simp only[PS]
  refine RD 8 rfl (λO n=>?_);obtain⟨o1,T,M,aU,aG⟩:=sk (o:=o) (N:=w.heap.size) own (λg k=>by have:=g1 g k;omega) (λg k=>by have:=g2 g k;omega) U lS;refine LW ρ _ _ γ (v.l D H J I K o1 _ i.r (i.m.q.1.1 o1 T) M aU aG aT (i.m.map λW k=>k.1.2) V aH) ?_;rintro r y2 ⟨rfl,q1,o2,P,Q,W,g,k⟩;have aO:=Z k;clear k;refine⟨_,rfl,?_⟩;have lw:=i.e.size;have k:=QG i.e g;replace i:=i.put g P;clear v own;refine n.l _ _ (⟨i.r.lt,i.m.q.2⟩) (λaS=>?_)
  try simp only[PS]
  refine DN ?_;have v:=Z (AH i.r Q);have aN:=Z k;clear i Q k P g;go_wp2;refine GO (v:=.tuple #[]) (by simp[results,results30]) rfl ⟨rfl,q1,o2,?_,?_,λb g=>(W b ω).j (T b g),aN.l,by rw[s];exact aO.l⟩
  ·rw[s];exact v.l.1
  rw[s];exact v.l.2
def RP(x:Wo):List Pr×Int:=if NI x=true then ((OP x.ss [] x.w).rs,(OP x.ss [] x.w).C) else ([],1)
theorem Lm(x:Wo):(RP x).1.length<=1048576:=by
 unfold RP
 split
 ·exact(yi x.ss [] x.w).1
 exact AM _
def H7(w b:Nb)(e:Ending)(r:List Pr×Int):Prop:=∃a c,e=M3 (.tuple #[MH a r.1.length c,.int .i64 r.2])/\r.1.length<=c/\OwnS b a (MC r.1)/\(∀g,blk a r.1.length=some g->w.heap.size<=g)/\Below w.heap.size w b
theorem mL(x:Wo)(q:Wp)(w:Nb)(h:x.at w q)(V:x.rs.length<=q.cs)(C:x.le 1048576)(H:TypeId)(v:Nc)(hv:w.cell? ⟨1,0,none⟩=some (.iface H v))(G:w.cell? ⟨0,0,none⟩=some (.iface 200 (.agg #[Mv 3 91])))(l:1<w.heap.size):Calls prog 14 #[MB x q] w λe j=>H7 w j e (RP x):=by
 have m:=Z (λj k=>xy x q j k V C);obtain⟨D,n⟩:∃D,Hid (D=OP x.ss [] x.w):=⟨_,Z rfl⟩;have u:=Z (λj (B:Below w.heap.size w j) k=>pO q.a x.ss q.c none [] 0 x.w j k (.inl rfl) C.l1 σ C.s1 σ H v ((B.cell (p:=⟨1,0,none⟩) l).j hv) ((B.cell (p:=⟨0,0,none⟩) (by show 0<_;omega)).j G) (by have:=B.size;omega));clear hv G l;have O:=(yi x.ss [] x.w).1;rw[<-n.l]at u O;simp only[AR]at u;unfold MB at m⊢;have d:Below w.heap.size w ((w.alloc (.cells (wA x q) 36)).alloc (.cells #[.slice none 0 0] 31)):=((AB _ _).alloc (AA _) _).alloc σ _;have c:=(MT w (wA x q) 36).alloc (.cells #[.slice none 0 0] 31);have a:=LM (w.alloc (.cells (wA x q) 36)) #[.slice none 0 0] 31 (w.heap.size+1) σ
 cases hok:NI x with
 | false =>
  have e:RP x=([],1):=by unfold RP;rw[AG (by rw[hok];simp)]
  rw[e];rw[hok]at m;clear e;go_enter func14,ntmps14;go_wp2_with fail;obtain⟨R,i⟩:∃y,y=w.heap.size+1:=⟨_,rfl⟩;obtain⟨J,b⟩:∃y,y=w.heap.size:=⟨_,rfl⟩;obtain⟨E,f⟩:∃y,y=((w.alloc (.cells (wA x q) 36)).alloc (.cells #[.slice none 0 0] 31)):=⟨_,rfl⟩;rw[<-f]at d c a;rw[<-i]at a;rw[<-b]at c;rw[<-f,<-i,<-b];have A:w.heap.size<=R:=ω
  clear f i;clear b;refine(m.l E (h.I d)).z ?_;rintro e I ⟨rfl,f⟩;have c:=c.I f;have a:=a.I f;have b:=d.j (f.z d.size);have h:=h.I b;clear d f;have r:=a.y 0;have U:=a.A 0;have rl:=a.lt;go_wp2;refine AJ (v:=.tuple #[.agg #[.slice none 0 0],.int .i64 1]) (by simp[results,results14,go_sem,r]) rfl ?_;exact⟨none,0,rfl,AA _,.inl rfl,λg l=>(by cases l),b.setCell (p:=⟨R,0,none⟩) A _⟩
 | true =>
  have e:RP x=(D.rs,D.C):=by unfold RP;rw[AE hok,n.l]
  rw[e];rw[hok]at m;clear e n;go_enter func14,ntmps14;go_wp2_with fail;obtain⟨R,i⟩:∃y,y=w.heap.size+1:=⟨_,rfl⟩;obtain⟨J,b⟩:∃y,y=w.heap.size:=⟨_,rfl⟩;obtain⟨E,f⟩:∃y,y=((w.alloc (.cells (wA x q) 36)).alloc (.cells #[.slice none 0 0] 31)):=⟨_,rfl⟩;rw[<-f]at d c a;rw[<-i]at a;rw[<-b]at c;rw[<-f,<-i,<-b];have A:w.heap.size<=R:=ω
  clear f i;clear b;refine(m.l E (h.I d)).z ?_;rintro e I ⟨rfl,f⟩;have c:=c.I f;have a:=a.I f;have b:=d.j (f.z d.size);have h:=h.I b;clear d f;have d:=c.y 0;have f:=c.y 1;have i:=c.lt;go_wp2_with fail;clear d f i;refine(u.l I b h.h1).z ?_;rintro e k ⟨⟨f,i,p,s,rfl,M,own,F,g2,z⟩,_⟩;unfold NZ;have Q:=a.lt;have P:=b.size;have a:=a.I z;have b:=b.j (z.z b.size);have aV:=z.size;have t:=MT k (dK D.C D.W D.S D.L D.T D.H D.F D.R D.U D.O (.slice f D.rs.length i) (.slice p D.ops.length s)) 99;have o:Below k.heap.size k (k.alloc (.cells (dK D.C D.W D.S D.L D.T D.H D.F D.R D.U D.O (.slice f D.rs.length i) (.slice p D.ops.length s)) 99)):=(AB _ _).alloc (AA _) _;go_upto_region 4 with fail;obtain⟨d,n⟩:∃y,y=k.heap.size:=⟨_,rfl⟩;have S:R<d:=by rw[n];exact a.lt
  obtain⟨v4,r⟩:∃y,y=k.alloc (.cells (dK D.C D.W D.S D.L D.T D.H D.F D.R D.U D.O (.slice f D.rs.length i) (.slice p D.ops.length s)) 99):=⟨_,rfl⟩;rw[<-r]at t o;rw[<-n]at t;rw[<-r,<-n];clear r;clear n;have a:=a.I o;have b:=b.j (o.z b.size);have X:=own.s.I o
  have y:Hid (∀W,Row W d (dJ D.C D.W D.S D.L D.T D.H D.F D.R D.U D.O (.slice f D.rs.length i) (.slice p D.ops.length s))->W.cell? ⟨d,10,none⟩=some (.slice f D.rs.length i)/\W.cell? ⟨d,0,none⟩=some (.int .i64 D.C)):=λW r=>⟨r.y 10,r.y 0⟩
  have N:Hid (R≠d):=Z (λe=>by have:=S;omega);have aU:=a.lt;have aT:=b.size;refine AN (S:=λj=>j.cell? ⟨d,10,none⟩=some (.slice f D.rs.length i)/\j.cell? ⟨d,0,none⟩=some (.int .i64 D.C)) κ (y.l _ t.drew) (λn=>?_);refine TY 0 (Mv d 1) rfl n (TY 1 (Mv d 10) rfl n (TY 2 (.agg #[.slice f D.rs.length i]) rfl n (TY 3 (Mv d 0) rfl n (TY 4 (.int .i64 D.C) rfl n ?_))));simp only[PS];refine RD 5 rfl (λK j=>?_);have T:=a.y 0;have a:=a.drew;have r:=a.y 0;have U:=a.A 0;have rl:=a.lt;go_simp;refine j.l _ _ (y.l _ (t.drew.other _ (λe=>N.l e) _)) (λL=>?_)
  try simp only[PS]
  refine RD 6 rfl (λK j=>?_);go_simp;refine j.l _ _ L (λ_=>?_)
  try simp only[PS]
  refine DN ?_;go_wp2;refine AJ (v:=.tuple #[.agg #[.slice f D.rs.length i],.int .i64 D.C]) (by simp[results,results14,go_sem,r,T]) rfl ?_;exact⟨f,i,rfl,M,(X.I (AB _ _).drew).set' _ (λg l W=>by have:=F g (by subst l;exact NT _ _ _ (vA W));have:=Q;show R≠g;omega) _,λg l=>by have:=F g l;have:=P;omega,b.drew.setCell (p:=⟨R,0,none⟩) A _⟩
def XE(x:Wo):Bool:=decide ((RP x).2=0) && x.P.any λp=>decide (p=(RP x).1)
theorem Bp{P:List (List Pr)}{s:List Pr}(h:∀j,j<P.length->¬P.getD j []=s):(P.any λp=>decide (p=s))=false:=by
 rw[List.any_eq_false];intro p b;obtain⟨i,a,rfl⟩:=EN b;have:=h i a;simpa[List.getD,a] using this
theorem Du{P:List (List Pr)}{s:List Pr}(j:Nat)(a:j<P.length)(h:P.getD j []=s):(P.any λp=>decide (p=s))=true :=List.any_eq_true.2 ⟨P.getD j [],by simp[List.getD,a],by simpa using h⟩
theorem Km(a b:M6)(d f:List Pr)(c i:Nat)(w:Nb)(h:Prs w a d)(m:Prs w b f)(n:d.length<=1048576)(l:f.length<=1048576):Calls prog 50 #[MH a d.length c,MH b f.length i] w λe g=>e=M3 (M0 (decide (d=f)))/\Below w.heap.size w g:=by
 have g:Below w.heap.size w ((w.alloc (.cells #[.slice a d.length c] 31)).alloc (.cells #[.slice b f.length i] 31)):=((AB _ _).alloc (AA _) _).alloc σ _;have j:=Z (Aq a b d f c i _ (h.I g) (m.I g) n l);obtain⟨D,k⟩:∃D,D=decide (d=f):=⟨_,rfl⟩;rw[<-k]at j⊢;clear k;go_enter func50,ntmps50;go_wp2_with fail;refine j.l.z ?_;rintro e o ⟨rfl,k⟩;go_wp2;go_ret;exact⟨rfl,g.j (k.z g.size)⟩
theorem Iw(a:M6)(P:List (List Pr))(c:Nat)(b:M6)(d:List Pr)(x:Nat)(w:Nb)(h:Pst w a P)(D:Prs w b d)(I:P.length<=1048576)(A:d.length<=1048576)(E:∀f∈P,f.length<=1048576):Calls prog 104 #[.slice a P.length c,.func (.func 50) #[MH b d.length x] #[]] w λe g=>(∃r:Int,e=M3 (.int .i64 r)/\(P.any λp=>decide (p=d))=decide (0<=r))/\Below w.heap.size w g:=by
 go_enter func104,ntmps104;go_wp2;go_loopw [5,8] (λ_ i wr=>∃k:Nat,k<=P.length/\i=.int .i64 (k:Int)/\Hid (∀j,j<k->¬P.getD j []=d)/\Below w.heap.size w wr) (λ_ i _=>P.length-(intOf i).toNat)
 case atStart=>exact⟨0,AM _,rfl,λj s=>absurd s ω,AB _ _⟩
 case round =>
  obtain⟨k,H,rfl,t,i⟩:=hrel
  by_cases q:k<P.length
  ·have z:(k:Int)<(P.length:Int):=ω
   obtain⟨G,J,p,C,rfl,F,B,u⟩:=(h.I i).at q;have v:(P.getD k []).length<=1048576:=E _ (by simp[List.getD,q])
   have m:Hid (¬P.getD k []=d->∀j,j<k+1->¬P.getD j []=d):=Z (λf j s=>by
    by_cases e:j=k
    ·subst e;exact f
    ·exact t.l j ω)
   have n:Hid (P.getD k []=d->(P.any λp=>decide (p=d))=true):=Z (λf=>Du k q f);obtain⟨o,f⟩:∃r,r=P.getD k []:=⟨_,rfl⟩;rw[<-f]at B u v m n;clear f;go_wp2_with fail;refine(Km b p d o x C _ (D.I i) u.l A v).z ?_;rintro e K ⟨rfl,y⟩;have r:=i.j (y.z i.size)
   by_cases f:d=o
   ·have l:decide (d=o)=true:=AL f
    rw[l];have g:=n.l f.symm;clear l f n m;go_wp2;go_ret
    exact⟨⟨(k:Int),rfl,by first|(rw[g,AL ω])|omega|(simp[g];done)⟩,r⟩
   have l:decide (d=o)=false:=AI f
   rw[l];have g:=Z (m.l (λe=>f e.symm));clear l f n m;go_wp2;go_roundw
   case rel=>exact⟨k+1,ω,ν,g.l,r⟩
   case measure=>simp[intOf];omega
  have z:¬(k:Int)<(P.length:Int):=ω
  have g:=Bp (P:=P) (s:=d) (λj s=>t.l j ω);go_wp2;go_ret
  exact⟨⟨-1,rfl,by first|(rw[g,AI ω])|omega|(simp[g];done)⟩,i⟩
theorem Em(a:M6)(P:List (List Pr))(c:Nat)(b:M6)(d:List Pr)(g:Nat)(w:Nb)(h:Pst w a P)(k:Prs w b d)(m:P.length<=1048576)(j:d.length<=1048576)(o:∀f∈P,f.length<=1048576):Calls prog 49 #[.slice a P.length c,.func (.func 50) #[MH b d.length g] #[]] w λe i=>e=M3 (M0 (P.any λp=>decide (p=d)))/\Below w.heap.size w i:=by
 obtain⟨B,i⟩:∃B,Hid (B=(P.any λp=>decide (p=d))):=⟨_,Z rfl⟩;have f:=Z (Iw a P c b d g w h k m j o);rw[<-i.l]at f⊢;go_enter func49,ntmps49;go_wp2_with fail;refine f.l.z ?_;rintro e p ⟨⟨r,rfl,n⟩,l⟩;go_wp2;go_ret;exact⟨by rw[n];rfl,l⟩
theorem Bz{x:Wo}(h:(RP x).2≠0):XE x=false:=by unfold XE;rw[AI h];rfl
theorem Ba{x:Wo}(h:(RP x).2=0):XE x=x.P.any λp=>decide (p=(RP x).1):=by unfold XE;rw[AL h];simp
theorem Kt(x:Wo)(q:Wp)(w:Nb)(h:x.at w q)(H:x.rs.length<=q.cs)(o:x.le 1048576)(D:TypeId)(v:Nc)(hv:w.cell? ⟨1,0,none⟩=some (.iface D v))(A:w.cell? ⟨0,0,none⟩=some (.iface 200 (.agg #[Mv 3 91])))(B:1<w.heap.size):Calls prog 15 #[MB x q] w λe a=>e=M3 (M0 (XE x))/\Below w.heap.size w a:=by
 have n:=Z (λa (u:Below w.heap.size w a) k=>mL x q a k H o D v ((u.cell (p:=⟨1,0,none⟩) B).j hv) ((u.cell (p:=⟨0,0,none⟩) (by show 0<_;omega)).j A) (by have:=u.size;omega));clear hv A B;have z:=Lm x;have i:Hid ((RP x).2≠0->XE x=false):=Z Bz;have j:Hid ((RP x).2=0->XE x=x.P.any λp=>decide (p=(RP x).1)):=Z Ba;obtain⟨R,g⟩:∃r,r=XE x:=⟨_,rfl⟩;obtain⟨G,b⟩:∃r,r=RP x:=⟨_,rfl⟩;obtain⟨a,C⟩:=G;rw[<-g]at i j⊢;rw[<-b]at n z i j;clear g b;have E:=o.l4;have F:Hid (∀a∈x.P,a.length<=1048576):=Z (λa b=>(o.s4 a b).1);unfold MB at n⊢;have c:Below w.heap.size w (w.alloc (.cells (wA x q) 36)):=(AB _ _).alloc (AA _) _;have f:=MT w (wA x q) 36;go_enter func15,ntmps15;go_wp2_with fail;obtain⟨L,b⟩:∃y,y=w.heap.size:=⟨_,rfl⟩;obtain⟨J,d⟩:∃y,y=w.alloc (.cells (wA x q) 36):=⟨_,rfl⟩;rw[<-d]at c f;rw[<-b]at f
 rw[<-d,<-b];clear d;clear b;refine(n.l J c (h.I c)).z ?_;rintro e b ⟨l,m,rfl,N,I,-,g⟩;have f:=f.I g;have d:=c.j (g.z c.size);have s:=h.h4.I d;clear c g h n o
 by_cases t:C=0
 ·subst t
  have g:=j.l rfl;clear i j;have n:=MT b #[.slice l a.length m] 31;have c:Below b.heap.size b (b.alloc (.cells #[.slice l a.length m] 31)):=(AB _ _).alloc (AA _) _;go_upto_region 2 with fail;obtain⟨M,p⟩:∃y,y=b.heap.size:=⟨_,rfl⟩;obtain⟨K,r⟩:∃y,y=b.alloc (.cells #[.slice l a.length m] 31):=⟨_,rfl⟩;rw[<-r]at n c;rw[<-p]at n;rw[<-r,<-p];clear r;clear p;have f:=f.I c;have d:=d.j (c.z d.size);have p:=I.prs.I c;have s:=s.I c;clear c;have c:=Z (Em q.p x.P q.cp l a m K s p E z F.l);rw[<-g]at c;clear g;have O:=f.y 14;have r:=f.lt;have P:=n.y 0;have y:=n.lt;go_wp2_with fail;refine c.l.z ?_;rintro e Q ⟨rfl,g⟩;go_wp2;go_ret;exact⟨rfl,d.j (g.z d.size)⟩
 have g:=i.l t
 clear i j;subst g;have i:(C == 0)=false:=by simpa using t
 have c:Below b.heap.size b (b.alloc (.cells #[.slice l a.length m] 31)):=(AB _ _).alloc (AA _) _;go_wp2;go_ret;exact⟨rfl,d.j (c.z d.size)⟩
