import Derived.Test.YteflhojcomcfaaaGreatDoorPrWoD
set_option maxHeartbeats 16000000
namespace Go.Proofs.YteflhojcomcfaaaGreatDoor
open Tryz
open Go.RowKit
set_option maxRecDepth 8000
set_option linter.all false
theorem Je{a b:Int}(h:¬a=b):(a == b)=false:=BL.2 h
theorem Ed(x:Wo)(q:Wp)(w:Q9)(h:x.at w q)(N:x.rs.length<=q.cs)(n:x.le 1048576):Calls prog 85 #[MD x q] w λe b=>e=Q2 (Q1 (QJ x))/\Q3 w b:=by
 unfold MD;have a:Q3 w w:=D;have L:=LE (λb=>N3 x q b n.l3);have j:=LE (λb k=>sm x.W x.S x.L x.T x.H x.F x.R x.U x.O q.s x.rs q.cs b k N n.l3 n.s3);unfold NA at L j;have O:=n.l1
 cases hup:x.up with
 | false =>
  have e:QJ x=RQ x:=by simp[QJ,hup]
  rw[e];clear e;go_enter func85,ntmps85;go_wp2_with fail;generalize d:w.alloc _=g;obtain⟨b,m,c⟩:=LP d;clear d;replace a:=a.E (b.J a.size);clear b;refine(L.j _).J ?_;rintro e d ⟨rfl,b⟩;have l:g.heap.size<=d.heap.size:=b.size;replace c:=c.I b;replace a:=a.E (b.J a.size);clear b;go_wp2;go_ret;exact⟨z,a⟩
 | true =>
  cases hst:OW x.W x.S x.L x.T x.H x.F x.R x.U x.O x.rs with
  | false =>
   have e:QJ x=false:=by simp[QJ,hup,hst]
   rw[e];rw[hst]at j;clear e;go_enter func85,ntmps85;go_wp2_with fail;generalize d:w.alloc _=g;obtain⟨b,m,c⟩:=LP d;clear d;replace a:=a.E (b.J a.size);clear b;refine(j.j _ (h.h3.I a)).J ?_;rintro e d ⟨rfl,b⟩;have l:g.heap.size<=d.heap.size:=b.size;replace c:=c.I b;replace a:=a.E (b.J a.size);clear b;obtain⟨u,v,y,A,B,C,E,F,H,I,b,o,p,r,s,t,J⟩:=c16 c.q;go_wp2;go_ret;exact⟨z,a⟩
  | true =>
   rw[hst]at j
   by_cases i:x.W=x.w
   rotate_left
   .have e:QJ x=false:=by simp[QJ,hup,hst,i]
    rw[e];clear e;go_enter func85,ntmps85;go_wp2_with fail;generalize d:w.alloc _=g;obtain⟨b,m,c⟩:=LP d;clear d;replace a:=a.E (b.J a.size);clear b;refine(j.j _ (h.h3.I a)).J ?_;rintro e d ⟨rfl,b⟩;have l:g.heap.size<=d.heap.size:=b.size;replace c:=c.I b;replace a:=a.E (b.J a.size);clear b;obtain⟨u,v,y,A,B,C,E,F,H,I,b,o,p,r,s,t,J⟩:=c16 c.q;go_wp2;go_ret;exact⟨z,a⟩
   by_cases f:x.S=(x.ss.length:Int)
   rotate_left
   .have e:QJ x=false:=by unfold QJ;rw[G hup,hst,AH (λk=>f k.2)];rfl
    rw[e];clear e;have K:=LE i;clear i;have k:=LE f;clear f;go_enter func85,ntmps85;go_wp2_with fail;generalize d:w.alloc _=g;obtain⟨b,m,c⟩:=LP d;clear d;replace a:=a.E (b.J a.size);clear b;refine(j.j _ (h.h3.I a)).J ?_;rintro e d ⟨rfl,b⟩;have l:g.heap.size<=d.heap.size:=b.size;replace c:=c.I b;replace a:=a.E (b.J a.size);clear b;have i:=K.j;have f:=k.j;obtain⟨u,v,y,A,B,C,E,F,H,I,b,o,p,r,s,t,J⟩:=c16 c.q;go_wp2;go_ret;have M:(x.S == (x.ss.length:Int))=false:=Je f;exact⟨by show Q2 (Q1 (x.S == (x.ss.length:Int)))=_;rw[M],a⟩
   have e:QJ x=true:=by unfold QJ;rw[G hup,hst,AM ⟨i,f⟩];rfl
   rw[e];clear e;have K:=LE i;clear i;have k:=LE f;clear f;go_enter func85,ntmps85;go_wp2_with fail;generalize d:w.alloc _=g;obtain⟨b,m,c⟩:=LP d;clear d;replace a:=a.E (b.J a.size);clear b;refine(j.j _ (h.h3.I a)).J ?_;rintro e d ⟨rfl,b⟩;have l:g.heap.size<=d.heap.size:=b.size;replace c:=c.I b;replace a:=a.E (b.J a.size);clear b;have i:=K.j;have f:=k.j;obtain⟨u,v,y,A,B,C,E,F,H,I,b,o,p,r,s,t,J⟩:=c16 c.q;go_wp2;go_ret;exact⟨z,a⟩
theorem vo(x:Wo)(q:Wp)(w:Q9)(h:x.at w q)(W:x.rs.length<=q.cs)(C:x.le 1048576):Calls prog 55 #[MD x q] w λe a=>e=Q2 (Q1 (MF x))/\Q3 w a:=by
 have E:=LE (TX x.w);have F:=LE (λa b c=>ZL q.a x.ss q.c q.a' x.ws q.c' a b c C.l1 C.l2 C.s1 C.s2);have G:=LE (λa k=>Ed x q a k W C);have K:=LE (λa k=>Eg q.p x.P q.cp a k C.l4 C.s4);have N:=LE (λa k=>Jf q.t x.ts q.ct a k C.l5 C.s5);unfold MD at G⊢;have b:Q3 w w:=D
 by_cases H:(decide (1<=x.w/\x.w<=8))=true
 rotate_left
 .have y:=GF.2 H
  have e:MF x=false:=by unfold MF;rw[y];rfl
  rw[e];rw[y]at E;clear e;go_enter func55,ntmps55;go_wp2_with fail;generalize d:w.alloc _=A;obtain⟨a,L,c⟩:=LP d;clear d;replace b:=b.E (a.J b.size);clear a;refine(E.j _).J ?_;rintro e d ⟨rfl,a⟩;rw[a];clear a d;obtain⟨k,l,m,n,o,p,r,s,t,u,a,d,f,g,i,j,v⟩:=c16 c.q;go_wp2;go_ret;exact⟨z,b⟩
 rw[H]at E
 by_cases J:(LT x.ss x.ws)=true
 rotate_left
 .have B:=GF.2 J
  have e:MF x=false:=by unfold MF;rw[H,B];rfl
  rw[e];rw[B]at F;clear e;go_enter func55,ntmps55;go_wp2_with fail;generalize d:w.alloc _=A;obtain⟨a,L,c⟩:=LP d;clear d;replace b:=b.E (a.J b.size);clear a;refine(E.j _).J ?_;rintro e d ⟨rfl,a⟩;rw[a];clear a d;obtain⟨k,l,m,n,o,p,r,s,t,u,a,d,f,g,i,j,v⟩:=c16 c.q;go_wp2_with fail;clear k l m n o p r s t u a d f g i j v;refine(F.j _ (h.h1.I b) (h.h2.I b)).J ?_;rintro e y ⟨rfl,a⟩;have O:A.heap.size<=y.heap.size:=a.size;replace c:=c.I a;replace b:=b.E (a.J b.size);clear a;obtain⟨k,l,m,n,o,p,r,s,t,u,a,d,f,g,i,j,v⟩:=c16 c.q;go_wp2;go_ret;exact⟨z,b⟩
 rw[J]at F
 by_cases M:(QJ x)=true
 rotate_left
 .have I:=GF.2 M
  have e:MF x=false:=by unfold MF;rw[H,J,I];rfl
  rw[e];rw[I]at G;clear e;go_enter func55,ntmps55;go_wp2_with fail;generalize d:w.alloc _=A;obtain⟨a,L,c⟩:=LP d;clear d;replace b:=b.E (a.J b.size);clear a;refine(E.j _).J ?_;rintro e d ⟨rfl,a⟩;rw[a];clear a d;obtain⟨k,l,m,n,o,p,r,s,t,u,a,d,f,g,i,j,v⟩:=c16 c.q;go_wp2_with fail;clear k l m n o p r s t u a d f g i j v;refine(F.j _ (h.h1.I b) (h.h2.I b)).J ?_;rintro e y ⟨rfl,a⟩;have O:A.heap.size<=y.heap.size:=a.size;replace c:=c.I a;replace b:=b.E (a.J b.size);clear a;obtain⟨k,l,m,n,o,p,r,s,t,u,a,d,f,g,i,j,v⟩:=c16 c.q;go_wp2_with fail;clear k l m n o p r s t u a d f g i j v;refine(G.j _ (h.I b)).J ?_;rintro e B ⟨rfl,a⟩;have Q:y.heap.size<=B.heap.size:=a.size;replace c:=c.I a;replace b:=b.E (a.J b.size);clear a;obtain⟨k,l,m,n,o,p,r,s,t,u,a,d,f,g,i,j,v⟩:=c16 c.q
  go_wp2;go_ret;exact⟨z,b⟩
 rw[M]at G
 by_cases P:(RJ x.P)=true
 rotate_left
 .have R:=GF.2 P
  have e:MF x=false:=by unfold MF;rw[H,J,M,R];rfl
  rw[e];rw[R]at K;clear e;go_enter func55,ntmps55;go_wp2_with fail;generalize d:w.alloc _=A;obtain⟨a,L,c⟩:=LP d;clear d;replace b:=b.E (a.J b.size);clear a;refine(E.j _).J ?_;rintro e d ⟨rfl,a⟩;rw[a];clear a d;obtain⟨k,l,m,n,o,p,r,s,t,u,a,d,f,g,i,j,v⟩:=c16 c.q;go_wp2_with fail;clear k l m n o p r s t u a d f g i j v;refine(F.j _ (h.h1.I b) (h.h2.I b)).J ?_;rintro e y ⟨rfl,a⟩;have O:A.heap.size<=y.heap.size:=a.size;replace c:=c.I a;replace b:=b.E (a.J b.size);clear a;obtain⟨k,l,m,n,o,p,r,s,t,u,a,d,f,g,i,j,v⟩:=c16 c.q;go_wp2_with fail;clear k l m n o p r s t u a d f g i j v;refine(G.j _ (h.I b)).J ?_;rintro e B ⟨rfl,a⟩;have Q:y.heap.size<=B.heap.size:=a.size;replace c:=c.I a;replace b:=b.E (a.J b.size);clear a;obtain⟨k,l,m,n,o,p,r,s,t,u,a,d,f,g,i,j,v⟩:=c16 c.q
  go_wp2_with fail;clear k l m n o p r s t u a d f g i j v;refine(K.j _ (h.h4.I b)).J ?_;rintro e I ⟨rfl,a⟩;have T:B.heap.size<=I.heap.size:=a.size;replace c:=c.I a;replace b:=b.E (a.J b.size);clear a;obtain⟨k,l,m,n,o,p,r,s,t,u,a,d,f,g,i,j,v⟩:=c16 c.q;go_wp2;go_ret;exact⟨z,b⟩
 rw[P]at K
 by_cases R:(ST x.ts)=true
 rotate_left
 .have U:=GF.2 R
  have e:MF x=false:=by unfold MF;rw[H,J,M,P,U];rfl
  rw[e];rw[U]at N;clear e;go_enter func55,ntmps55;go_wp2_with fail;generalize d:w.alloc _=A;obtain⟨a,L,c⟩:=LP d;clear d;replace b:=b.E (a.J b.size);clear a;refine(E.j _).J ?_;rintro e d ⟨rfl,a⟩;rw[a];clear a d;obtain⟨k,l,m,n,o,p,r,s,t,u,a,d,f,g,i,j,v⟩:=c16 c.q;go_wp2_with fail;clear k l m n o p r s t u a d f g i j v;refine(F.j _ (h.h1.I b) (h.h2.I b)).J ?_;rintro e y ⟨rfl,a⟩;have O:A.heap.size<=y.heap.size:=a.size;replace c:=c.I a;replace b:=b.E (a.J b.size);clear a;obtain⟨k,l,m,n,o,p,r,s,t,u,a,d,f,g,i,j,v⟩:=c16 c.q;go_wp2_with fail;clear k l m n o p r s t u a d f g i j v;refine(G.j _ (h.I b)).J ?_;rintro e B ⟨rfl,a⟩;have Q:y.heap.size<=B.heap.size:=a.size;replace c:=c.I a;replace b:=b.E (a.J b.size);clear a;obtain⟨k,l,m,n,o,p,r,s,t,u,a,d,f,g,i,j,v⟩:=c16 c.q
  go_wp2_with fail;clear k l m n o p r s t u a d f g i j v;refine(K.j _ (h.h4.I b)).J ?_;rintro e I ⟨rfl,a⟩;have T:B.heap.size<=I.heap.size:=a.size;replace c:=c.I a;replace b:=b.E (a.J b.size);clear a;obtain⟨k,l,m,n,o,p,r,s,t,u,a,d,f,g,i,j,v⟩:=c16 c.q;go_wp2_with fail;clear k l m n o p r s t u a d f g i j v;refine(N.j _ (h.h5.I b)).J ?_;rintro e S ⟨rfl,a⟩;have V:I.heap.size<=S.heap.size:=a.size;replace c:=c.I a;replace b:=b.E (a.J b.size);clear a;obtain⟨k,l,m,n,o,p,r,s,t,u,a,d,f,g,i,j,v⟩:=c16 c.q;go_wp2;go_ret;exact⟨z,b⟩
 rw[R]at N;have e:MF x=true:=by unfold MF;rw[H,J,M,P,R];rfl
 rw[e];clear e;go_enter func55,ntmps55;go_wp2_with fail;generalize d:w.alloc _=A;obtain⟨a,L,c⟩:=LP d;clear d;replace b:=b.E (a.J b.size);clear a;refine(E.j _).J ?_;rintro e d ⟨rfl,a⟩;rw[a];clear a d;obtain⟨k,l,m,n,o,p,r,s,t,u,a,d,f,g,i,j,v⟩:=c16 c.q;go_wp2_with fail;clear k l m n o p r s t u a d f g i j v;refine(F.j _ (h.h1.I b) (h.h2.I b)).J ?_;rintro e y ⟨rfl,a⟩;have O:A.heap.size<=y.heap.size:=a.size;replace c:=c.I a;replace b:=b.E (a.J b.size);clear a;obtain⟨k,l,m,n,o,p,r,s,t,u,a,d,f,g,i,j,v⟩:=c16 c.q;go_wp2_with fail;clear k l m n o p r s t u a d f g i j v;refine(G.j _ (h.I b)).J ?_;rintro e B ⟨rfl,a⟩;have Q:y.heap.size<=B.heap.size:=a.size;replace c:=c.I a;replace b:=b.E (a.J b.size);clear a;obtain⟨k,l,m,n,o,p,r,s,t,u,a,d,f,g,i,j,v⟩:=c16 c.q
 go_wp2_with fail;clear k l m n o p r s t u a d f g i j v;refine(K.j _ (h.h4.I b)).J ?_;rintro e I ⟨rfl,a⟩;have T:B.heap.size<=I.heap.size:=a.size;replace c:=c.I a;replace b:=b.E (a.J b.size);clear a;obtain⟨k,l,m,n,o,p,r,s,t,u,a,d,f,g,i,j,v⟩:=c16 c.q;go_wp2_with fail;clear k l m n o p r s t u a d f g i j v;refine(N.j _ (h.h5.I b)).J ?_;rintro e S ⟨rfl,a⟩;have V:I.heap.size<=S.heap.size:=a.size;replace c:=c.I a;replace b:=b.E (a.J b.size);clear a;obtain⟨k,l,m,n,o,p,r,s,t,u,a,d,f,g,i,j,v⟩:=c16 c.q;go_wp2;go_ret;exact⟨z,b⟩
