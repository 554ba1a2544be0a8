import Derived.Test.YtmlejnbjclkdjaaGreatDoorPrG42
set_option maxHeartbeats 16000000
namespace Go.Proofs.YtmlejnbjclkdjaaGreatDoor
open Tryz
open Go.RowKit
set_option maxRecDepth 8000
set_option linter.all false
theorem Dw{a b:Int}(h:¬a=b):(a == b)=false:=EO.2 h
theorem yR(x:Wo)(q:Wp)(w:Nb)(h:x.at w q)(K:x.rs.length<=q.cs)(n:x.le 1048576):Calls prog 58 #[MB x q] w λe b=>e=M3 (M0 (QU x))/\Below w.heap.size w b:=by
 unfold MB;have a:Below w.heap.size w w:=AB _ _;have I:=Z (λb=>Jm x q b n.l3);have j:=Z (λb k=>kn x.W x.S x.L x.T x.H x.F x.R x.U x.O q.s x.rs q.cs b k K n.l3 n.s3);unfold NK at I j;have L:=n.l1
 cases hup:x.up with
 | false =>
  have e:QU x=QZ x:=by simp[QU,hup]
  rw[e];clear e;go_enter func58,ntmps58;go_wp2_with fail;generalize d:w.alloc _=g;obtain⟨b,m,c⟩:=LY d;clear d;replace a:=a.j (b.z a.size);clear b;refine(I.l _).z ?_;rintro e d ⟨rfl,b⟩;have l:g.heap.size<=d.heap.size:=b.size;replace c:=c.I b;replace a:=a.j (b.z a.size);clear b;go_wp2;go_ret;exact⟨rfl,a⟩
 | true =>
  cases hst:OB x.W x.S x.L x.T x.H x.F x.R x.U x.O x.rs with
  | false =>
   have e:QU x=false:=by simp[QU,hup,hst]
   rw[e];rw[hst]at j;clear e;go_enter func58,ntmps58;go_wp2_with fail;generalize d:w.alloc _=g;obtain⟨b,m,c⟩:=LY d;clear d;replace a:=a.j (b.z a.size);clear b;refine(j.l _ (h.h3.I a)).z ?_;rintro e d ⟨rfl,b⟩;have l:g.heap.size<=d.heap.size:=b.size;replace c:=c.I b;replace a:=a.j (b.z a.size);clear b;obtain⟨u,v,y,z,A,B,C,D,E,F,b,o,p,r,s,t,G⟩:=c16 c.q;go_wp2;go_ret;exact⟨rfl,a⟩
  | true =>
   rw[hst]at j
   by_cases i:x.W=x.w
   rotate_left
   ·have e:QU x=false:=by simp[QU,hup,hst,i]
    rw[e];clear e;go_enter func58,ntmps58;go_wp2_with fail;generalize d:w.alloc _=g;obtain⟨b,m,c⟩:=LY d;clear d;replace a:=a.j (b.z a.size);clear b;refine(j.l _ (h.h3.I a)).z ?_;rintro e d ⟨rfl,b⟩;have l:g.heap.size<=d.heap.size:=b.size;replace c:=c.I b;replace a:=a.j (b.z a.size);clear b;obtain⟨u,v,y,z,A,B,C,D,E,F,b,o,p,r,s,t,G⟩:=c16 c.q;go_wp2;go_ret;exact⟨rfl,a⟩
   by_cases f:x.S=(x.ss.length:Int)
   rotate_left
   ·have e:QU x=false:=by unfold QU;rw[AE hup,hst,AI (λk=>f k.2)];rfl
    rw[e];clear e;have H:=Z i;clear i;have k:=Z f;clear f;go_enter func58,ntmps58;go_wp2_with fail;generalize d:w.alloc _=g;obtain⟨b,m,c⟩:=LY d;clear d;replace a:=a.j (b.z a.size);clear b;refine(j.l _ (h.h3.I a)).z ?_;rintro e d ⟨rfl,b⟩;have l:g.heap.size<=d.heap.size:=b.size;replace c:=c.I b;replace a:=a.j (b.z a.size);clear b;have i:=H.l;have f:=k.l;obtain⟨u,v,y,z,A,B,C,D,E,F,b,o,p,r,s,t,G⟩:=c16 c.q;go_wp2;go_ret;have J:(x.S == (x.ss.length:Int))=false:=Dw f;exact⟨by show M3 (M0 (x.S == (x.ss.length:Int)))=_;rw[J],a⟩
   have e:QU x=true:=by unfold QU;rw[AE hup,hst,AL ⟨i,f⟩];rfl
   rw[e];clear e;have H:=Z i;clear i;have k:=Z f;clear f;go_enter func58,ntmps58;go_wp2_with fail;generalize d:w.alloc _=g;obtain⟨b,m,c⟩:=LY d;clear d;replace a:=a.j (b.z a.size);clear b;refine(j.l _ (h.h3.I a)).z ?_;rintro e d ⟨rfl,b⟩;have l:g.heap.size<=d.heap.size:=b.size;replace c:=c.I b;replace a:=a.j (b.z a.size);clear b;have i:=H.l;have f:=k.l;obtain⟨u,v,y,z,A,B,C,D,E,F,b,o,p,r,s,t,G⟩:=c16 c.q;go_wp2;go_ret;exact⟨rfl,a⟩
theorem xy(x:Wo)(q:Wp)(w:Nb)(h:x.at w q)(U:x.rs.length<=q.cs)(B:x.le 1048576):Calls prog 25 #[MB x q] w λe a=>e=M3 (M0 (NI x))/\Below w.heap.size w a:=by
 have C:=Z (SZ x.w);have D:=Z (λa b c=>NF q.a x.ss q.c q.a' x.ws q.c' a b c B.l1 B.l2 B.s1 B.s2);have E:=Z (λa k=>yR x q a k U B);have I:=Z (λa k=>yT q.p x.P q.cp a k B.l4 B.s4);have L:=Z (λa k=>Dy q.t x.ts q.ct a k B.l5 B.s5);unfold MB at E⊢;have b:Below w.heap.size w w:=AB _ _
 by_cases F:(decide (1<=x.w/\x.w<=8))=true
 rotate_left
 ·have y:=IM.2 F
  have e:NI x=false:=by unfold NI;rw[y];rfl
  rw[e];rw[y]at C;clear e;go_enter func25,ntmps25;go_wp2_with fail;generalize d:w.alloc _=z;obtain⟨a,J,c⟩:=LY d;clear d;replace b:=b.j (a.z b.size);clear a;refine(C.l _).z ?_;rintro e d ⟨rfl,a⟩;rw[a];clear a d;obtain⟨k,l,m,n,o,p,r,s,t,u,a,d,f,g,i,j,v⟩:=c16 c.q;go_wp2;go_ret;exact⟨rfl,b⟩
 rw[F]at C
 by_cases H:(LE x.ss x.ws)=true
 rotate_left
 ·have A:=IM.2 H
  have e:NI x=false:=by unfold NI;rw[F,A];rfl
  rw[e];rw[A]at D;clear e;go_enter func25,ntmps25;go_wp2_with fail;generalize d:w.alloc _=z;obtain⟨a,J,c⟩:=LY d;clear d;replace b:=b.j (a.z b.size);clear a;refine(C.l _).z ?_;rintro e d ⟨rfl,a⟩;rw[a];clear a d;obtain⟨k,l,m,n,o,p,r,s,t,u,a,d,f,g,i,j,v⟩:=c16 c.q;go_wp2_with fail;clear k l m n o p r s t u a d f g i j v;refine(D.l _ (h.h1.I b) (h.h2.I b)).z ?_;rintro e y ⟨rfl,a⟩;have M:z.heap.size<=y.heap.size:=a.size;replace c:=c.I a;replace b:=b.j (a.z b.size);clear a;obtain⟨k,l,m,n,o,p,r,s,t,u,a,d,f,g,i,j,v⟩:=c16 c.q;go_wp2;go_ret;exact⟨rfl,b⟩
 rw[H]at D
 by_cases K:(QU x)=true
 rotate_left
 ·have G:=IM.2 K
  have e:NI x=false:=by unfold NI;rw[F,H,G];rfl
  rw[e];rw[G]at E;clear e;go_enter func25,ntmps25;go_wp2_with fail;generalize d:w.alloc _=z;obtain⟨a,J,c⟩:=LY d;clear d;replace b:=b.j (a.z b.size);clear a;refine(C.l _).z ?_;rintro e d ⟨rfl,a⟩;rw[a];clear a d;obtain⟨k,l,m,n,o,p,r,s,t,u,a,d,f,g,i,j,v⟩:=c16 c.q;go_wp2_with fail;clear k l m n o p r s t u a d f g i j v;refine(D.l _ (h.h1.I b) (h.h2.I b)).z ?_;rintro e y ⟨rfl,a⟩;have M:z.heap.size<=y.heap.size:=a.size;replace c:=c.I a;replace b:=b.j (a.z b.size);clear a;obtain⟨k,l,m,n,o,p,r,s,t,u,a,d,f,g,i,j,v⟩:=c16 c.q;go_wp2_with fail;clear k l m n o p r s t u a d f g i j v;refine(E.l _ (h.I b)).z ?_;rintro e A ⟨rfl,a⟩;have O:y.heap.size<=A.heap.size:=a.size;replace c:=c.I a;replace b:=b.j (a.z b.size);clear a;obtain⟨k,l,m,n,o,p,r,s,t,u,a,d,f,g,i,j,v⟩:=c16 c.q
  go_wp2;go_ret;exact⟨rfl,b⟩
 rw[K]at E
 by_cases N:(QR x.P)=true
 rotate_left
 ·have P:=IM.2 N
  have e:NI x=false:=by unfold NI;rw[F,H,K,P];rfl
  rw[e];rw[P]at I;clear e;go_enter func25,ntmps25;go_wp2_with fail;generalize d:w.alloc _=z;obtain⟨a,J,c⟩:=LY d;clear d;replace b:=b.j (a.z b.size);clear a;refine(C.l _).z ?_;rintro e d ⟨rfl,a⟩;rw[a];clear a d;obtain⟨k,l,m,n,o,p,r,s,t,u,a,d,f,g,i,j,v⟩:=c16 c.q;go_wp2_with fail;clear k l m n o p r s t u a d f g i j v;refine(D.l _ (h.h1.I b) (h.h2.I b)).z ?_;rintro e y ⟨rfl,a⟩;have M:z.heap.size<=y.heap.size:=a.size;replace c:=c.I a;replace b:=b.j (a.z b.size);clear a;obtain⟨k,l,m,n,o,p,r,s,t,u,a,d,f,g,i,j,v⟩:=c16 c.q;go_wp2_with fail;clear k l m n o p r s t u a d f g i j v;refine(E.l _ (h.I b)).z ?_;rintro e A ⟨rfl,a⟩;have O:y.heap.size<=A.heap.size:=a.size;replace c:=c.I a;replace b:=b.j (a.z b.size);clear a;obtain⟨k,l,m,n,o,p,r,s,t,u,a,d,f,g,i,j,v⟩:=c16 c.q
  go_wp2_with fail;clear k l m n o p r s t u a d f g i j v;refine(I.l _ (h.h4.I b)).z ?_;rintro e G ⟨rfl,a⟩;have R:A.heap.size<=G.heap.size:=a.size;replace c:=c.I a;replace b:=b.j (a.z b.size);clear a;obtain⟨k,l,m,n,o,p,r,s,t,u,a,d,f,g,i,j,v⟩:=c16 c.q;go_wp2;go_ret;exact⟨rfl,b⟩
 rw[N]at I
 by_cases P:(RV x.ts)=true
 rotate_left
 ·have S:=IM.2 P
  have e:NI x=false:=by unfold NI;rw[F,H,K,N,S];rfl
  rw[e];rw[S]at L;clear e;go_enter func25,ntmps25;go_wp2_with fail;generalize d:w.alloc _=z;obtain⟨a,J,c⟩:=LY d;clear d;replace b:=b.j (a.z b.size);clear a;refine(C.l _).z ?_;rintro e d ⟨rfl,a⟩;rw[a];clear a d;obtain⟨k,l,m,n,o,p,r,s,t,u,a,d,f,g,i,j,v⟩:=c16 c.q;go_wp2_with fail;clear k l m n o p r s t u a d f g i j v;refine(D.l _ (h.h1.I b) (h.h2.I b)).z ?_;rintro e y ⟨rfl,a⟩;have M:z.heap.size<=y.heap.size:=a.size;replace c:=c.I a;replace b:=b.j (a.z b.size);clear a;obtain⟨k,l,m,n,o,p,r,s,t,u,a,d,f,g,i,j,v⟩:=c16 c.q;go_wp2_with fail;clear k l m n o p r s t u a d f g i j v;refine(E.l _ (h.I b)).z ?_;rintro e A ⟨rfl,a⟩;have O:y.heap.size<=A.heap.size:=a.size;replace c:=c.I a;replace b:=b.j (a.z b.size);clear a;obtain⟨k,l,m,n,o,p,r,s,t,u,a,d,f,g,i,j,v⟩:=c16 c.q
  go_wp2_with fail;clear k l m n o p r s t u a d f g i j v;refine(I.l _ (h.h4.I b)).z ?_;rintro e G ⟨rfl,a⟩;have R:A.heap.size<=G.heap.size:=a.size;replace c:=c.I a;replace b:=b.j (a.z b.size);clear a;obtain⟨k,l,m,n,o,p,r,s,t,u,a,d,f,g,i,j,v⟩:=c16 c.q;go_wp2_with fail;clear k l m n o p r s t u a d f g i j v;refine(L.l _ (h.h5.I b)).z ?_;rintro e Q ⟨rfl,a⟩;have T:G.heap.size<=Q.heap.size:=a.size;replace c:=c.I a;replace b:=b.j (a.z b.size);clear a;obtain⟨k,l,m,n,o,p,r,s,t,u,a,d,f,g,i,j,v⟩:=c16 c.q;go_wp2;go_ret;exact⟨rfl,b⟩
 rw[P]at L;have e:NI x=true:=by unfold NI;rw[F,H,K,N,P];rfl
 rw[e];clear e;go_enter func25,ntmps25;go_wp2_with fail;generalize d:w.alloc _=z;obtain⟨a,J,c⟩:=LY d;clear d;replace b:=b.j (a.z b.size);clear a;refine(C.l _).z ?_;rintro e d ⟨rfl,a⟩;rw[a];clear a d;obtain⟨k,l,m,n,o,p,r,s,t,u,a,d,f,g,i,j,v⟩:=c16 c.q;go_wp2_with fail;clear k l m n o p r s t u a d f g i j v;refine(D.l _ (h.h1.I b) (h.h2.I b)).z ?_;rintro e y ⟨rfl,a⟩;have M:z.heap.size<=y.heap.size:=a.size;replace c:=c.I a;replace b:=b.j (a.z b.size);clear a;obtain⟨k,l,m,n,o,p,r,s,t,u,a,d,f,g,i,j,v⟩:=c16 c.q;go_wp2_with fail;clear k l m n o p r s t u a d f g i j v;refine(E.l _ (h.I b)).z ?_;rintro e A ⟨rfl,a⟩;have O:y.heap.size<=A.heap.size:=a.size;replace c:=c.I a;replace b:=b.j (a.z b.size);clear a;obtain⟨k,l,m,n,o,p,r,s,t,u,a,d,f,g,i,j,v⟩:=c16 c.q
 go_wp2_with fail;clear k l m n o p r s t u a d f g i j v;refine(I.l _ (h.h4.I b)).z ?_;rintro e G ⟨rfl,a⟩;have R:A.heap.size<=G.heap.size:=a.size;replace c:=c.I a;replace b:=b.j (a.z b.size);clear a;obtain⟨k,l,m,n,o,p,r,s,t,u,a,d,f,g,i,j,v⟩:=c16 c.q;go_wp2_with fail;clear k l m n o p r s t u a d f g i j v;refine(L.l _ (h.h5.I b)).z ?_;rintro e Q ⟨rfl,a⟩;have T:G.heap.size<=Q.heap.size:=a.size;replace c:=c.I a;replace b:=b.j (a.z b.size);clear a;obtain⟨k,l,m,n,o,p,r,s,t,u,a,d,f,g,i,j,v⟩:=c16 c.q;go_wp2;go_ret;exact⟨rfl,b⟩
