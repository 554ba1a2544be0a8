import Derived.Test.YtjdmogljfdffeaaGreatDoorPrG32
set_option maxHeartbeats 16000000
namespace Go.Proofs.YtjdmogljfdffeaaGreatDoor
open Tryz
open Go.RowKit
set_option maxRecDepth 8000
set_option linter.all false
theorem Cl{a b:Int}(h:¬a=b):(a == b)=false:=ET.2 h
theorem xR(x:Wo)(q:Wp)(w:World)(h:x.at w q)(L:x.rs.length<=q.cs)(n:x.le 1048576):Calls prog 48 #[LO x q] w λe b=>e=.returned (.bool (PX x))/\Below w.heap.size w b:=by
 unfold LO;have a:Below w.heap.size w w:=AC _ _;have I:=Z (λb=>Hh x q b n.l3);have j:=Z (λb k=>kz x.W x.S x.L x.T x.H x.F x.R x.U x.O q.s x.rs q.cs b k L n.l3 n.s3);unfold MM at I j;have M:=n.l1
 cases hup:x.up with
 | false =>
  have e:PX x=QA x:=by simp[PX,hup]
  rw[e];clear e;go_enter func48,ntmps48;go_wp2_with fail;generalize d:w.alloc _=g;obtain⟨b,m,c⟩:=LF d;clear d;replace a:=a.j (b.A a.size);clear b;refine(I.l _).A ?_;rintro e d ⟨rfl,b⟩;have l:g.heap.size<=d.heap.size:=b.size;replace c:=c.z b;replace a:=a.j (b.A a.size);clear b;go_wp2;go_ret;exact⟨rfl,a⟩
 | true =>
  cases hst:NE x.W x.S x.L x.T x.H x.F x.R x.U x.O x.rs with
  | false =>
   have e:PX x=false:=by simp[PX,hup,hst]
   rw[e];rw[hst]at j;clear e;go_enter func48,ntmps48;go_wp2_with fail;generalize d:w.alloc _=g;obtain⟨b,m,c⟩:=LF d;clear d;replace a:=a.j (b.A a.size);clear b;refine(j.l _ (h.h3.z a)).A ?_;rintro e d ⟨rfl,b⟩;have l:g.heap.size<=d.heap.size:=b.size;replace c:=c.z b;replace a:=a.j (b.A a.size);clear b;obtain⟨u,v,y,z,A,B,C,D,E,F,b,o,p,r,s,t,G⟩:=c16 c.q;go_wp2;go_ret;exact⟨rfl,a⟩
  | true =>
   rw[hst]at j
   by_cases i:x.W=x.w
   rotate_left
   ·have e:PX x=false:=by simp[PX,hup,hst,i]
    rw[e];clear e;go_enter func48,ntmps48;go_wp2_with fail;generalize d:w.alloc _=g;obtain⟨b,m,c⟩:=LF d;clear d;replace a:=a.j (b.A a.size);clear b;refine(j.l _ (h.h3.z a)).A ?_;rintro e d ⟨rfl,b⟩;have l:g.heap.size<=d.heap.size:=b.size;replace c:=c.z b;replace a:=a.j (b.A a.size);clear b;obtain⟨u,v,y,z,A,B,C,D,E,F,b,o,p,r,s,t,G⟩:=c16 c.q;go_wp2;go_ret;exact⟨rfl,a⟩
   by_cases f:x.S=(x.ss.length:Int)
   rotate_left
   ·have e:PX x=false:=by unfold PX;rw[AF hup,hst,AJ (λk=>f k.2)];rfl
    rw[e];clear e;have H:=Z i;clear i;have k:=Z f;clear f;go_enter func48,ntmps48;go_wp2_with fail;generalize d:w.alloc _=g;obtain⟨b,m,c⟩:=LF d;clear d;replace a:=a.j (b.A a.size);clear b;refine(j.l _ (h.h3.z a)).A ?_;rintro e d ⟨rfl,b⟩;have l:g.heap.size<=d.heap.size:=b.size;replace c:=c.z b;replace a:=a.j (b.A a.size);clear b;have i:=H.l;have f:=k.l;obtain⟨u,v,y,z,A,B,C,D,E,F,b,o,p,r,s,t,G⟩:=c16 c.q;go_wp2;go_ret;have K:(x.S == (x.ss.length:Int))=false:=Cl f;exact⟨by show Ending.returned (Value.bool (x.S == (x.ss.length:Int)))=_;rw[K],a⟩
   have e:PX x=true:=by unfold PX;rw[AF hup,hst,AM ⟨i,f⟩];rfl
   rw[e];clear e;have H:=Z i;clear i;have k:=Z f;clear f;go_enter func48,ntmps48;go_wp2_with fail;generalize d:w.alloc _=g;obtain⟨b,m,c⟩:=LF d;clear d;replace a:=a.j (b.A a.size);clear b;refine(j.l _ (h.h3.z a)).A ?_;rintro e d ⟨rfl,b⟩;have l:g.heap.size<=d.heap.size:=b.size;replace c:=c.z b;replace a:=a.j (b.A a.size);clear b;have i:=H.l;have f:=k.l;obtain⟨u,v,y,z,A,B,C,D,E,F,b,o,p,r,s,t,G⟩:=c16 c.q;go_wp2;go_ret;exact⟨rfl,a⟩
theorem Im(x:Wo)(q:Wp)(w:World)(h:x.at w q)(W:x.rs.length<=q.cs)(B:x.le 1048576):Calls prog 11 #[LO x q] w λe a=>e=.returned (.bool (MP x))/\Below w.heap.size w a:=by
 have C:=Z (RX x.w);have D:=Z (λa b c=>WD q.a x.ss q.c q.a' x.ws q.c' a b c B.l1 B.l2 B.s1 B.s2);have E:=Z (λa k=>xR x q a k W B);have I:=Z (λa k=>xT q.p x.P q.cp a k B.l4 B.s4);have M:=Z (λa k=>Cn q.t x.ts q.ct a k B.l5 B.s5);unfold LO at E⊢;have b:Below w.heap.size w w:=AC _ _
 by_cases F:(decide (1<=x.w/\x.w<=8))=true
 rotate_left
 ·have y:=IE.2 F
  have e:MP x=false:=by unfold MP;rw[y];rfl
  rw[e];rw[y]at C;clear e;go_enter func11,ntmps11;go_wp2_with fail;generalize d:w.alloc _=z;obtain⟨a,K,c⟩:=LF d;clear d;replace b:=b.j (a.A b.size);clear a;refine(C.l _).A ?_;rintro e d ⟨rfl,a⟩;rw[a];clear a d;obtain⟨k,l,m,n,o,p,r,s,t,u,a,d,f,g,i,j,v⟩:=c16 c.q;go_wp2;go_ret;exact⟨rfl,b⟩
 rw[F]at C
 by_cases H:(LG x.ss x.ws)=true
 rotate_left
 ·have A:=IE.2 H
  have e:MP x=false:=by unfold MP;rw[F,A];rfl
  rw[e];rw[A]at D;clear e;go_enter func11,ntmps11;go_wp2_with fail;generalize d:w.alloc _=z;obtain⟨a,K,c⟩:=LF d;clear d;replace b:=b.j (a.A b.size);clear a;refine(C.l _).A ?_;rintro e d ⟨rfl,a⟩;rw[a];clear a d;obtain⟨k,l,m,n,o,p,r,s,t,u,a,d,f,g,i,j,v⟩:=c16 c.q;go_wp2_with fail;clear k l m n o p r s t u a d f g i j v;refine(D.l _ (h.h1.z b) (h.h2.z b)).A ?_;rintro e y ⟨rfl,a⟩;have N:z.heap.size<=y.heap.size:=a.size;replace c:=c.z a;replace b:=b.j (a.A b.size);clear a;obtain⟨k,l,m,n,o,p,r,s,t,u,a,d,f,g,i,j,v⟩:=c16 c.q;go_wp2;go_ret;exact⟨rfl,b⟩
 rw[H]at D
 by_cases L:(PX x)=true
 rotate_left
 ·have G:=IE.2 L
  have e:MP x=false:=by unfold MP;rw[F,H,G];rfl
  rw[e];rw[G]at E;clear e;go_enter func11,ntmps11;go_wp2_with fail;generalize d:w.alloc _=z;obtain⟨a,K,c⟩:=LF d;clear d;replace b:=b.j (a.A b.size);clear a;refine(C.l _).A ?_;rintro e d ⟨rfl,a⟩;rw[a];clear a d;obtain⟨k,l,m,n,o,p,r,s,t,u,a,d,f,g,i,j,v⟩:=c16 c.q;go_wp2_with fail;clear k l m n o p r s t u a d f g i j v;refine(D.l _ (h.h1.z b) (h.h2.z b)).A ?_;rintro e y ⟨rfl,a⟩;have N:z.heap.size<=y.heap.size:=a.size;replace c:=c.z a;replace b:=b.j (a.A b.size);clear a;obtain⟨k,l,m,n,o,p,r,s,t,u,a,d,f,g,i,j,v⟩:=c16 c.q;go_wp2_with fail;clear k l m n o p r s t u a d f g i j v;refine(E.l _ (h.z b)).A ?_;rintro e A ⟨rfl,a⟩;have P:y.heap.size<=A.heap.size:=a.size;replace c:=c.z a;replace b:=b.j (a.A b.size);clear a;obtain⟨k,l,m,n,o,p,r,s,t,u,a,d,f,g,i,j,v⟩:=c16 c.q
  go_wp2;go_ret;exact⟨rfl,b⟩
 rw[L]at E
 by_cases O:(PT x.P)=true
 rotate_left
 ·have Q:=IE.2 O
  have e:MP x=false:=by unfold MP;rw[F,H,L,Q];rfl
  rw[e];rw[Q]at I;clear e;go_enter func11,ntmps11;go_wp2_with fail;generalize d:w.alloc _=z;obtain⟨a,K,c⟩:=LF d;clear d;replace b:=b.j (a.A b.size);clear a;refine(C.l _).A ?_;rintro e d ⟨rfl,a⟩;rw[a];clear a d;obtain⟨k,l,m,n,o,p,r,s,t,u,a,d,f,g,i,j,v⟩:=c16 c.q;go_wp2_with fail;clear k l m n o p r s t u a d f g i j v;refine(D.l _ (h.h1.z b) (h.h2.z b)).A ?_;rintro e y ⟨rfl,a⟩;have N:z.heap.size<=y.heap.size:=a.size;replace c:=c.z a;replace b:=b.j (a.A b.size);clear a;obtain⟨k,l,m,n,o,p,r,s,t,u,a,d,f,g,i,j,v⟩:=c16 c.q;go_wp2_with fail;clear k l m n o p r s t u a d f g i j v;refine(E.l _ (h.z b)).A ?_;rintro e A ⟨rfl,a⟩;have P:y.heap.size<=A.heap.size:=a.size;replace c:=c.z a;replace b:=b.j (a.A b.size);clear a;obtain⟨k,l,m,n,o,p,r,s,t,u,a,d,f,g,i,j,v⟩:=c16 c.q
  go_wp2_with fail;clear k l m n o p r s t u a d f g i j v;refine(I.l _ (h.h4.z b)).A ?_;rintro e G ⟨rfl,a⟩;have S:A.heap.size<=G.heap.size:=a.size;replace c:=c.z a;replace b:=b.j (a.A b.size);clear a;obtain⟨k,l,m,n,o,p,r,s,t,u,a,d,f,g,i,j,v⟩:=c16 c.q;go_wp2;go_ret;exact⟨rfl,b⟩
 rw[O]at I
 by_cases Q:(QR x.ts)=true
 rotate_left
 ·have T:=IE.2 Q
  have e:MP x=false:=by unfold MP;rw[F,H,L,O,T];rfl
  rw[e];rw[T]at M;clear e;go_enter func11,ntmps11;go_wp2_with fail;generalize d:w.alloc _=z;obtain⟨a,K,c⟩:=LF d;clear d;replace b:=b.j (a.A b.size);clear a;refine(C.l _).A ?_;rintro e d ⟨rfl,a⟩;rw[a];clear a d;obtain⟨k,l,m,n,o,p,r,s,t,u,a,d,f,g,i,j,v⟩:=c16 c.q;go_wp2_with fail;clear k l m n o p r s t u a d f g i j v;refine(D.l _ (h.h1.z b) (h.h2.z b)).A ?_;rintro e y ⟨rfl,a⟩;have N:z.heap.size<=y.heap.size:=a.size;replace c:=c.z a;replace b:=b.j (a.A b.size);clear a;obtain⟨k,l,m,n,o,p,r,s,t,u,a,d,f,g,i,j,v⟩:=c16 c.q;go_wp2_with fail;clear k l m n o p r s t u a d f g i j v;refine(E.l _ (h.z b)).A ?_;rintro e A ⟨rfl,a⟩;have P:y.heap.size<=A.heap.size:=a.size;replace c:=c.z a;replace b:=b.j (a.A b.size);clear a;obtain⟨k,l,m,n,o,p,r,s,t,u,a,d,f,g,i,j,v⟩:=c16 c.q
  go_wp2_with fail;clear k l m n o p r s t u a d f g i j v;refine(I.l _ (h.h4.z b)).A ?_;rintro e G ⟨rfl,a⟩;have S:A.heap.size<=G.heap.size:=a.size;replace c:=c.z a;replace b:=b.j (a.A b.size);clear a;obtain⟨k,l,m,n,o,p,r,s,t,u,a,d,f,g,i,j,v⟩:=c16 c.q;go_wp2_with fail;clear k l m n o p r s t u a d f g i j v;refine(M.l _ (h.h5.z b)).A ?_;rintro e R ⟨rfl,a⟩;have U:G.heap.size<=R.heap.size:=a.size;replace c:=c.z a;replace b:=b.j (a.A b.size);clear a;obtain⟨k,l,m,n,o,p,r,s,t,u,a,d,f,g,i,j,v⟩:=c16 c.q;go_wp2;go_ret;exact⟨rfl,b⟩
 rw[Q]at M;have e:MP x=true:=by unfold MP;rw[F,H,L,O,Q];rfl
 rw[e];clear e;go_enter func11,ntmps11;go_wp2_with fail;generalize d:w.alloc _=z;obtain⟨a,K,c⟩:=LF d;clear d;replace b:=b.j (a.A b.size);clear a;refine(C.l _).A ?_;rintro e d ⟨rfl,a⟩;rw[a];clear a d;obtain⟨k,l,m,n,o,p,r,s,t,u,a,d,f,g,i,j,v⟩:=c16 c.q;go_wp2_with fail;clear k l m n o p r s t u a d f g i j v;refine(D.l _ (h.h1.z b) (h.h2.z b)).A ?_;rintro e y ⟨rfl,a⟩;have N:z.heap.size<=y.heap.size:=a.size;replace c:=c.z a;replace b:=b.j (a.A b.size);clear a;obtain⟨k,l,m,n,o,p,r,s,t,u,a,d,f,g,i,j,v⟩:=c16 c.q;go_wp2_with fail;clear k l m n o p r s t u a d f g i j v;refine(E.l _ (h.z b)).A ?_;rintro e A ⟨rfl,a⟩;have P:y.heap.size<=A.heap.size:=a.size;replace c:=c.z a;replace b:=b.j (a.A b.size);clear a;obtain⟨k,l,m,n,o,p,r,s,t,u,a,d,f,g,i,j,v⟩:=c16 c.q
 go_wp2_with fail;clear k l m n o p r s t u a d f g i j v;refine(I.l _ (h.h4.z b)).A ?_;rintro e G ⟨rfl,a⟩;have S:A.heap.size<=G.heap.size:=a.size;replace c:=c.z a;replace b:=b.j (a.A b.size);clear a;obtain⟨k,l,m,n,o,p,r,s,t,u,a,d,f,g,i,j,v⟩:=c16 c.q;go_wp2_with fail;clear k l m n o p r s t u a d f g i j v;refine(M.l _ (h.h5.z b)).A ?_;rintro e R ⟨rfl,a⟩;have U:G.heap.size<=R.heap.size:=a.size;replace c:=c.z a;replace b:=b.j (a.A b.size);clear a;obtain⟨k,l,m,n,o,p,r,s,t,u,a,d,f,g,i,j,v⟩:=c16 c.q;go_wp2;go_ret;exact⟨rfl,b⟩
