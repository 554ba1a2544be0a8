import Derived.Test.YtkdedmclofhndaaGreatDoorPrG40
set_option maxHeartbeats 16000000
namespace Go.Proofs.YtkdedmclofhndaaGreatDoor
open Tryz
open Go.RowKit
set_option maxRecDepth 8000
set_option linter.all false
theorem He{a b:Int}(h:¬a=b):(a == b)=false:=BI.2 h
theorem Br(x:Wo)(q:Wp)(w:xV)(h:x.at w q)(K:x.rs.length<=q.cs)(n:x.le 1048576):Calls prog 102 #[LT x q] w λe b=>e=yT (yR (OW x))/\yX w b:=by
 unfold LT;have a:yX w w:=AB _ _;have I:=Y (λb=>L6 x q b n.l3);have j:=Y (λb k=>kz x.W x.S x.L x.T x.H x.F x.R x.U x.O q.s x.rs q.cs b k K n.l3 n.s3);unfold MI at I j;have L:=n.l1
 cases hup:x.up with
 | false =>
  have e:OW x=QC x:=by simp[OW,hup]
  rw[e];clear e;go_enter func102,ntmps102;go_wp2_with fail;generalize d:w.alloc _=g;obtain⟨b,m,c⟩:=LK d;clear d;replace a:=a.E (b.J a.size);clear b;refine(I.j _).J ?_;rintro e d ⟨rfl,b⟩;have l:g.heap.size<=d.heap.size:=b.size;replace c:=c.I b;replace a:=a.E (b.J a.size);clear b;go_wp2;go_ret;exact⟨rfl,a⟩
 | true =>
  cases hst:NX x.W x.S x.L x.T x.H x.F x.R x.U x.O x.rs with
  | false =>
   have e:OW x=false:=by simp[OW,hup,hst]
   rw[e];rw[hst]at j;clear e;go_enter func102,ntmps102;go_wp2_with fail;generalize d:w.alloc _=g;obtain⟨b,m,c⟩:=LK d;clear d;replace a:=a.E (b.J a.size);clear b;refine(j.j _ (h.h3.I a)).J ?_;rintro e d ⟨rfl,b⟩;have l:g.heap.size<=d.heap.size:=b.size;replace c:=c.I b;replace a:=a.E (b.J a.size);clear b;obtain⟨u,v,y,z,A,B,C,D,E,F,b,o,p,r,s,t,G⟩:=c16 c.q;go_wp2;go_ret;exact⟨rfl,a⟩
  | true =>
   rw[hst]at j
   by_cases i:x.W=x.w
   rotate_left
   ·have e:OW x=false:=by simp[OW,hup,hst,i]
    rw[e];clear e;go_enter func102,ntmps102;go_wp2_with fail;generalize d:w.alloc _=g;obtain⟨b,m,c⟩:=LK d;clear d;replace a:=a.E (b.J a.size);clear b;refine(j.j _ (h.h3.I a)).J ?_;rintro e d ⟨rfl,b⟩;have l:g.heap.size<=d.heap.size:=b.size;replace c:=c.I b;replace a:=a.E (b.J a.size);clear b;obtain⟨u,v,y,z,A,B,C,D,E,F,b,o,p,r,s,t,G⟩:=c16 c.q;go_wp2;go_ret;exact⟨rfl,a⟩
   by_cases f:x.S=(x.ss.length:Int)
   rotate_left
   ·have e:OW x=false:=by unfold OW;rw[AI hup,hst,AH (λk=>f k.2)];rfl
    rw[e];clear e;have H:=Y i;clear i;have k:=Y f;clear f;go_enter func102,ntmps102;go_wp2_with fail;generalize d:w.alloc _=g;obtain⟨b,m,c⟩:=LK d;clear d;replace a:=a.E (b.J a.size);clear b;refine(j.j _ (h.h3.I a)).J ?_;rintro e d ⟨rfl,b⟩;have l:g.heap.size<=d.heap.size:=b.size;replace c:=c.I b;replace a:=a.E (b.J a.size);clear b;have i:=H.j;have f:=k.j;obtain⟨u,v,y,z,A,B,C,D,E,F,b,o,p,r,s,t,G⟩:=c16 c.q;go_wp2;go_ret;have J:(x.S == (x.ss.length:Int))=false:=He f;exact⟨by show yT (yR (x.S == (x.ss.length:Int)))=_;rw[J],a⟩
   have e:OW x=true:=by unfold OW;rw[AI hup,hst,AM ⟨i,f⟩];rfl
   rw[e];clear e;have H:=Y i;clear i;have k:=Y f;clear f;go_enter func102,ntmps102;go_wp2_with fail;generalize d:w.alloc _=g;obtain⟨b,m,c⟩:=LK d;clear d;replace a:=a.E (b.J a.size);clear b;refine(j.j _ (h.h3.I a)).J ?_;rintro e d ⟨rfl,b⟩;have l:g.heap.size<=d.heap.size:=b.size;replace c:=c.I b;replace a:=a.E (b.J a.size);clear b;have i:=H.j;have f:=k.j;obtain⟨u,v,y,z,A,B,C,D,E,F,b,o,p,r,s,t,G⟩:=c16 c.q;go_wp2;go_ret;exact⟨rfl,a⟩
theorem qf(x:Wo)(q:Wp)(w:xV)(h:x.at w q)(U:x.rs.length<=q.cs)(B:x.le 1048576):Calls prog 67 #[LT x q] w λe a=>e=yT (yR (LW x))/\yX w a:=by
 have C:=Y (RH x.w);have D:=Y (λa b c=>WA q.a x.ss q.c q.a' x.ws q.c' a b c B.l1 B.l2 B.s1 B.s2);have E:=Y (λa k=>Br x q a k U B);have I:=Y (λa k=>Bv q.p x.P q.cp a k B.l4 B.s4);have L:=Y (λa k=>Hg q.t x.ts q.ct a k B.l5 B.s5);unfold LT at E⊢;have b:yX w w:=AB _ _
 by_cases F:(decide (1<=x.w/\x.w<=8))=true
 rotate_left
 ·have y:=GE.2 F
  have e:LW x=false:=by unfold LW;rw[y];rfl
  rw[e];rw[y]at C;clear e;go_enter func67,ntmps67;go_wp2_with fail;generalize d:w.alloc _=z;obtain⟨a,J,c⟩:=LK d;clear d;replace b:=b.E (a.J b.size);clear a;refine(C.j _).J ?_;rintro e d ⟨rfl,a⟩;rw[a];clear a d;obtain⟨k,l,m,n,o,p,r,s,t,u,a,d,f,g,i,j,v⟩:=c16 c.q;go_wp2;go_ret;exact⟨rfl,b⟩
 rw[F]at C
 by_cases H:(LO x.ss x.ws)=true
 rotate_left
 ·have A:=GE.2 H
  have e:LW x=false:=by unfold LW;rw[F,A];rfl
  rw[e];rw[A]at D;clear e;go_enter func67,ntmps67;go_wp2_with fail;generalize d:w.alloc _=z;obtain⟨a,J,c⟩:=LK d;clear d;replace b:=b.E (a.J b.size);clear a;refine(C.j _).J ?_;rintro e d ⟨rfl,a⟩;rw[a];clear a d;obtain⟨k,l,m,n,o,p,r,s,t,u,a,d,f,g,i,j,v⟩:=c16 c.q;go_wp2_with fail;clear k l m n o p r s t u a d f g i j v;refine(D.j _ (h.h1.I b) (h.h2.I b)).J ?_;rintro e y ⟨rfl,a⟩;have M:z.heap.size<=y.heap.size:=a.size;replace c:=c.I a;replace b:=b.E (a.J b.size);clear a;obtain⟨k,l,m,n,o,p,r,s,t,u,a,d,f,g,i,j,v⟩:=c16 c.q;go_wp2;go_ret;exact⟨rfl,b⟩
 rw[H]at D
 by_cases K:(OW x)=true
 rotate_left
 ·have G:=GE.2 K
  have e:LW x=false:=by unfold LW;rw[F,H,G];rfl
  rw[e];rw[G]at E;clear e;go_enter func67,ntmps67;go_wp2_with fail;generalize d:w.alloc _=z;obtain⟨a,J,c⟩:=LK d;clear d;replace b:=b.E (a.J b.size);clear a;refine(C.j _).J ?_;rintro e d ⟨rfl,a⟩;rw[a];clear a d;obtain⟨k,l,m,n,o,p,r,s,t,u,a,d,f,g,i,j,v⟩:=c16 c.q;go_wp2_with fail;clear k l m n o p r s t u a d f g i j v;refine(D.j _ (h.h1.I b) (h.h2.I b)).J ?_;rintro e y ⟨rfl,a⟩;have M:z.heap.size<=y.heap.size:=a.size;replace c:=c.I a;replace b:=b.E (a.J b.size);clear a;obtain⟨k,l,m,n,o,p,r,s,t,u,a,d,f,g,i,j,v⟩:=c16 c.q;go_wp2_with fail;clear k l m n o p r s t u a d f g i j v;refine(E.j _ (h.I b)).J ?_;rintro e A ⟨rfl,a⟩;have O:y.heap.size<=A.heap.size:=a.size;replace c:=c.I a;replace b:=b.E (a.J b.size);clear a;obtain⟨k,l,m,n,o,p,r,s,t,u,a,d,f,g,i,j,v⟩:=c16 c.q
  go_wp2;go_ret;exact⟨rfl,b⟩
 rw[K]at E
 by_cases N:(PW x.P)=true
 rotate_left
 ·have P:=GE.2 N
  have e:LW x=false:=by unfold LW;rw[F,H,K,P];rfl
  rw[e];rw[P]at I;clear e;go_enter func67,ntmps67;go_wp2_with fail;generalize d:w.alloc _=z;obtain⟨a,J,c⟩:=LK d;clear d;replace b:=b.E (a.J b.size);clear a;refine(C.j _).J ?_;rintro e d ⟨rfl,a⟩;rw[a];clear a d;obtain⟨k,l,m,n,o,p,r,s,t,u,a,d,f,g,i,j,v⟩:=c16 c.q;go_wp2_with fail;clear k l m n o p r s t u a d f g i j v;refine(D.j _ (h.h1.I b) (h.h2.I b)).J ?_;rintro e y ⟨rfl,a⟩;have M:z.heap.size<=y.heap.size:=a.size;replace c:=c.I a;replace b:=b.E (a.J b.size);clear a;obtain⟨k,l,m,n,o,p,r,s,t,u,a,d,f,g,i,j,v⟩:=c16 c.q;go_wp2_with fail;clear k l m n o p r s t u a d f g i j v;refine(E.j _ (h.I b)).J ?_;rintro e A ⟨rfl,a⟩;have O:y.heap.size<=A.heap.size:=a.size;replace c:=c.I a;replace b:=b.E (a.J b.size);clear a;obtain⟨k,l,m,n,o,p,r,s,t,u,a,d,f,g,i,j,v⟩:=c16 c.q
  go_wp2_with fail;clear k l m n o p r s t u a d f g i j v;refine(I.j _ (h.h4.I b)).J ?_;rintro e G ⟨rfl,a⟩;have R:A.heap.size<=G.heap.size:=a.size;replace c:=c.I a;replace b:=b.E (a.J b.size);clear a;obtain⟨k,l,m,n,o,p,r,s,t,u,a,d,f,g,i,j,v⟩:=c16 c.q;go_wp2;go_ret;exact⟨rfl,b⟩
 rw[N]at I
 by_cases P:(QP x.ts)=true
 rotate_left
 ·have S:=GE.2 P
  have e:LW x=false:=by unfold LW;rw[F,H,K,N,S];rfl
  rw[e];rw[S]at L;clear e;go_enter func67,ntmps67;go_wp2_with fail;generalize d:w.alloc _=z;obtain⟨a,J,c⟩:=LK d;clear d;replace b:=b.E (a.J b.size);clear a;refine(C.j _).J ?_;rintro e d ⟨rfl,a⟩;rw[a];clear a d;obtain⟨k,l,m,n,o,p,r,s,t,u,a,d,f,g,i,j,v⟩:=c16 c.q;go_wp2_with fail;clear k l m n o p r s t u a d f g i j v;refine(D.j _ (h.h1.I b) (h.h2.I b)).J ?_;rintro e y ⟨rfl,a⟩;have M:z.heap.size<=y.heap.size:=a.size;replace c:=c.I a;replace b:=b.E (a.J b.size);clear a;obtain⟨k,l,m,n,o,p,r,s,t,u,a,d,f,g,i,j,v⟩:=c16 c.q;go_wp2_with fail;clear k l m n o p r s t u a d f g i j v;refine(E.j _ (h.I b)).J ?_;rintro e A ⟨rfl,a⟩;have O:y.heap.size<=A.heap.size:=a.size;replace c:=c.I a;replace b:=b.E (a.J b.size);clear a;obtain⟨k,l,m,n,o,p,r,s,t,u,a,d,f,g,i,j,v⟩:=c16 c.q
  go_wp2_with fail;clear k l m n o p r s t u a d f g i j v;refine(I.j _ (h.h4.I b)).J ?_;rintro e G ⟨rfl,a⟩;have R:A.heap.size<=G.heap.size:=a.size;replace c:=c.I a;replace b:=b.E (a.J b.size);clear a;obtain⟨k,l,m,n,o,p,r,s,t,u,a,d,f,g,i,j,v⟩:=c16 c.q;go_wp2_with fail;clear k l m n o p r s t u a d f g i j v;refine(L.j _ (h.h5.I b)).J ?_;rintro e Q ⟨rfl,a⟩;have T:G.heap.size<=Q.heap.size:=a.size;replace c:=c.I a;replace b:=b.E (a.J b.size);clear a;obtain⟨k,l,m,n,o,p,r,s,t,u,a,d,f,g,i,j,v⟩:=c16 c.q;go_wp2;go_ret;exact⟨rfl,b⟩
 rw[P]at L;have e:LW x=true:=by unfold LW;rw[F,H,K,N,P];rfl
 rw[e];clear e;go_enter func67,ntmps67;go_wp2_with fail;generalize d:w.alloc _=z;obtain⟨a,J,c⟩:=LK d;clear d;replace b:=b.E (a.J b.size);clear a;refine(C.j _).J ?_;rintro e d ⟨rfl,a⟩;rw[a];clear a d;obtain⟨k,l,m,n,o,p,r,s,t,u,a,d,f,g,i,j,v⟩:=c16 c.q;go_wp2_with fail;clear k l m n o p r s t u a d f g i j v;refine(D.j _ (h.h1.I b) (h.h2.I b)).J ?_;rintro e y ⟨rfl,a⟩;have M:z.heap.size<=y.heap.size:=a.size;replace c:=c.I a;replace b:=b.E (a.J b.size);clear a;obtain⟨k,l,m,n,o,p,r,s,t,u,a,d,f,g,i,j,v⟩:=c16 c.q;go_wp2_with fail;clear k l m n o p r s t u a d f g i j v;refine(E.j _ (h.I b)).J ?_;rintro e A ⟨rfl,a⟩;have O:y.heap.size<=A.heap.size:=a.size;replace c:=c.I a;replace b:=b.E (a.J b.size);clear a;obtain⟨k,l,m,n,o,p,r,s,t,u,a,d,f,g,i,j,v⟩:=c16 c.q
 go_wp2_with fail;clear k l m n o p r s t u a d f g i j v;refine(I.j _ (h.h4.I b)).J ?_;rintro e G ⟨rfl,a⟩;have R:A.heap.size<=G.heap.size:=a.size;replace c:=c.I a;replace b:=b.E (a.J b.size);clear a;obtain⟨k,l,m,n,o,p,r,s,t,u,a,d,f,g,i,j,v⟩:=c16 c.q;go_wp2_with fail;clear k l m n o p r s t u a d f g i j v;refine(L.j _ (h.h5.I b)).J ?_;rintro e Q ⟨rfl,a⟩;have T:G.heap.size<=Q.heap.size:=a.size;replace c:=c.I a;replace b:=b.E (a.J b.size);clear a;obtain⟨k,l,m,n,o,p,r,s,t,u,a,d,f,g,i,j,v⟩:=c16 c.q;go_wp2;go_ret;exact⟨rfl,b⟩
