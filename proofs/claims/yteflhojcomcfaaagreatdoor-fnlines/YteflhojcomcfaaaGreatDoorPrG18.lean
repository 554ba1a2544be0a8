import Derived.Test.YteflhojcomcfaaaGreatDoorPrOpS
set_option maxHeartbeats 16000000
set_option maxRecDepth 8000
set_option linter.all false
namespace Go.Proofs.YteflhojcomcfaaaGreatDoor
open _root_.ByteArray(empty)
open Tryz
open Go.RowKit
theorem ru{s t:Q4}(h:¬s=t):(s.toList == t.toList)=false:=by
 rw[BL];intro a;rw[CZ,CZ]at a;exact h (EV (Array.toList_inj.1 a))
theorem B6{a b:List Pr}(e:a.length=b.length)(h:∀j,j<a.length->a.getD j (empty,empty)=b.getD j (empty,empty)):a=b:=by
 apply KW e
 intro i c d;have:=h i c;simpa[List.getD,c,d] using this
theorem yK{a b:List Pr}(k:Nat)(h:a.getD k (empty,empty)≠b.getD k (empty,empty)):a≠b:=λe=>h (by rw[e])
theorem Gl(a b:Q5)(o q:List Pr)(c X:Nat)(w:Q9)(h:Prs w a o)(u:Prs w b q)(x:o.length<=1048576)(W:q.length<=1048576):Calls prog 156 #[Y a o.length c,Y b q.length X] w λe g=>e=Q2 (Q1 (decide (o=q)))/\Q3 w g:=by
 obtain⟨f,s⟩:=nHz (decide (o=q));rw[<-s.j]
 by_cases F:o.length=q.length
 .have T:Hid ((∀j,j<o.length->o.getD j (empty,empty)=q.getD j (empty,empty))->f=true):=LE (λi=>by rw[s.j];exact AM (B6 F i))
  have P:Hid (∀k,o.getD k (empty,empty)≠q.getD k (empty,empty)->f=false):=LE (λk i=>by rw[s.j];exact AH (yK k i));clear s;obtain⟨N,i⟩:=nMz o.length;rw[<-F,<-i];have O:=LE i;rw[<-i]at x;have l:N=q.length:=d
  have S:=LE l;clear i l F W;go_enter func156,ntmps156;go_wp2;go_loopw [5,13] (λ_ i wr=>∃k:Nat,k<=N/\i=Z (k:Int)/\Hid (∀j,j<k->o.getD j (empty,empty)=q.getD j (empty,empty))/\Q3 w wr) (λ_ i _=>N-(intOf i).toNat)
  case atStart=>exact⟨0,AL,z,λj K=>absurd K d,D⟩
  case round =>
   obtain⟨k,hk,rfl,M,t⟩:=hrel
   by_cases aM:k<N
   .have V:(k:Int)<(N:Int):=d
    obtain⟨i,m,p,r,rfl,v,y,G⟩:=(h.I t).at (k:=k) (by have:=O.j;omega);obtain⟨l,n,L,E,rfl,A,B,H⟩:=(u.I t).at (k:=k) (by have:=S.j;omega)
    by_cases I:p=L
    .subst I
     by_cases J:r=E
     .subst J
      have C:Hid (wr.cell? (Ki i (m+k*2))=some (Ow p)/\wr.cell? (Ki i (m+k*2+1))=some (Ow r)/\wr.cell? (Ki l (n+k*2))=some (Ow p)/\wr.cell? (Ki l (n+k*2+1))=some (Ow r)):=⟨v,y,A,B⟩;clear v y A B;go_upto_region 6 with fail
      go_region_held3 (λg=>g.cell? (Ki i (m+k*2))=some (Ow p)/\g.cell? (Ki i (m+k*2+1))=some (Ow r)/\g.cell? (Ki l (n+k*2))=some (Ow p)/\g.cell? (Ki l (n+k*2+1))=some (Ow r))
       (first|assumption|exact C.j)
       (fail)
      go_wp2;go_roundw
      case rel=>exact⟨k+1,d,ν,λj K=>by
        by_cases e:j=k
        .subst e;rw[<-G.j,<-H.j]
        exact M.j j d,t.drew⟩
      case measure=>simp[intOf];omega
     have U:=ru J
     have C:Hid (wr.cell? (Ki i (m+k*2))=some (Ow p)/\wr.cell? (Ki i (m+k*2+1))=some (Ow r)/\wr.cell? (Ki l (n+k*2))=some (Ow p)/\wr.cell? (Ki l (n+k*2+1))=some (Ow E)):=⟨v,y,A,B⟩;clear v y A B;go_upto_region 6 with fail
     go_region_held3 (λg=>g.cell? (Ki i (m+k*2))=some (Ow p)/\g.cell? (Ki i (m+k*2+1))=some (Ow r)/\g.cell? (Ki l (n+k*2))=some (Ow p)/\g.cell? (Ki l (n+k*2+1))=some (Ow E))
      (first|assumption|exact C.j)
      (fail)
     go_wp2;go_ret;exact⟨by rw[P.j k (by rw[<-G.j,<-H.j];intro e;injection e with Q R;exact J R)];rfl,t.drew⟩
    have U:=ru I
    have C:Hid (wr.cell? (Ki i (m+k*2))=some (Ow p)/\wr.cell? (Ki i (m+k*2+1))=some (Ow r)/\wr.cell? (Ki l (n+k*2))=some (Ow L)/\wr.cell? (Ki l (n+k*2+1))=some (Ow E)):=⟨v,y,A,B⟩;clear v y A B;go_upto_region 6 with fail
    go_region_held3 (λg=>g.cell? (Ki i (m+k*2))=some (Ow p)/\g.cell? (Ki i (m+k*2+1))=some (Ow r)/\g.cell? (Ki l (n+k*2))=some (Ow L)/\g.cell? (Ki l (n+k*2+1))=some (Ow E))
     (first|assumption|exact C.j)
     (fail)
    go_wp2;go_ret;exact⟨by rw[P.j k (by rw[<-G.j,<-H.j];intro e;injection e with Q R;exact I Q)];rfl,t.drew⟩
   have V:¬(k:Int)<(N:Int):=d
   go_wp2;go_ret;exact⟨by rw[T.j (λj K=>M.j j (by have:=O.j;omega))];rfl,t⟩
 have g:f=false:=by rw[s.j];exact AH (λe=>F (by rw[e]))
 have i:¬((o.length:Int)=(q.length:Int)):=d
 clear s;subst g;go_enter func156,ntmps156;go_wp2;go_ret;exact⟨z,D⟩
theorem Ky(a b:Q5)(p t:List Pr)(c q:Nat)(w:Q9)(h:Prs w a p)(T:Prs w b t)(hl:p.length<=1048576)(aO:t.length<=1048576):Calls prog 109 #[LX a p.length c,LX b t.length q] w λe l=>e=Q2 (Q1 (decide (p=t)))/\Q3 w l:=by
 obtain⟨g,G⟩:=nHz (decide (p=t));rw[<-G.j]
 by_cases O:p.length=t.length
 .have aL:Hid ((∀f,f<p.length->p.getD f (empty,empty)=t.getD f (empty,empty))->g=true):=LE (λi=>by rw[G.j];exact AM (B6 O i))
  have x:Hid (∀k,p.getD k (empty,empty)≠t.getD k (empty,empty)->g=false):=LE (λk i=>by rw[G.j];exact AH (yK k i));clear G;obtain⟨N,i⟩:=u p.length;rw[<-O,<-i];have X:=LE i;rw[<-i]at hl;have m:N=t.length:=d
  have aK:=LE m;clear i m O aO;go_enter func109,ntmps109;have s:=LZ w #[Y a N c] 42;have B:=OY (w.alloc (.cells #[Y a N c] 42)) #[Y b N q] 42 (w.heap.size+1) σ;have s:=s.alloc (.cells #[Y b N q] 42);have v:Q3 w ((w.alloc (.cells #[Y a N c] 42)).alloc (.cells #[Y b N q] 42)):=((D).alloc AA _).alloc σ _;go_wp2;obtain⟨E,i⟩:=u w.heap.size;obtain⟨F,m⟩:=u (w.heap.size+1);obtain⟨v0,n⟩:=u ((w.alloc (.cells #[Y a N c] 42)).alloc (.cells #[Y b N q] 42));rw[<-n]at s B v;rw[<-i]at s;rw[<-m]at B;rw[<-n,<-m,<-i];have h:=h.I v;have T:=T.I v;clear n m;clear i;go_loopw [5] (λi wr=>∃k:Nat,k<=N/\i=Z (k:Int)/\Hid (∀f,f<k->p.getD f (empty,empty)=t.getD f (empty,empty))/\Q3 v0 wr) (λi _=>N-(intOf i).toNat)
  case atStart=>exact⟨0,AL,z,λf U=>absurd U d,D⟩
  case round =>
   obtain⟨k,hk,rfl,W,A⟩:=hrel;have s:=s.I A;have B:=B.I A;have aQ:=s.y 0;have aR:=s.lt
   by_cases aP:k<N
   .have aN:(k:Int)<(N:Int):=d
    obtain⟨i,n,r,y,rfl,H,I,P⟩:=(h.I A).at (k:=k) (by have:=X.j;omega);obtain⟨m,o,V,M,rfl,J,K,Q⟩:=(T.I A).at (k:=k) (by have:=aK.j;omega)
    by_cases R:r=V
    .subst R
     by_cases S:y=M
     .subst S
      have L:Hid (wr.cell? (Ki i (n+k*2))=some (Ow r)/\wr.cell? (Ki i (n+k*2+1))=some (Ow y)/\wr.cell? (Ki m (o+k*2))=some (Ow r)/\wr.cell? (Ki m (o+k*2+1))=some (Ow y)/\wr.cell? (Ki E 0)=some (Y (Hw i n) N c)/\wr.cell? (Ki F 0)=some (Y (Hw m o) N q)):=⟨H,I,J,K,s.y 0,B.y 0⟩;clear H I J K;go_upto_region 6 with fail
      go_region_held3 (λl=>l.cell? (Ki i (n+k*2))=some (Ow r)/\l.cell? (Ki i (n+k*2+1))=some (Ow y)/\l.cell? (Ki m (o+k*2))=some (Ow r)/\l.cell? (Ki m (o+k*2+1))=some (Ow y)/\l.cell? (Ki E 0)=some (Y (Hw i n) N c)/\l.cell? (Ki F 0)=some (Y (Hw m o) N q))
       (first|assumption|exact L.j)
       (fail)
      go_wp2;go_roundw
      case rel=>exact⟨k+1,d,ν,λf U=>by
        by_cases e:f=k
        .subst e;rw[<-P.j,<-Q.j]
        exact W.j f d,A.drew⟩
      case measure=>simp[intOf];omega
     have aM:=ru S
     have L:Hid (wr.cell? (Ki i (n+k*2))=some (Ow r)/\wr.cell? (Ki i (n+k*2+1))=some (Ow y)/\wr.cell? (Ki m (o+k*2))=some (Ow r)/\wr.cell? (Ki m (o+k*2+1))=some (Ow M)/\wr.cell? (Ki E 0)=some (Y (Hw i n) N c)/\wr.cell? (Ki F 0)=some (Y (Hw m o) N q)):=⟨H,I,J,K,s.y 0,B.y 0⟩;clear H I J K;go_upto_region 6 with fail
     go_region_held3 (λl=>l.cell? (Ki i (n+k*2))=some (Ow r)/\l.cell? (Ki i (n+k*2+1))=some (Ow y)/\l.cell? (Ki m (o+k*2))=some (Ow r)/\l.cell? (Ki m (o+k*2+1))=some (Ow M)/\l.cell? (Ki E 0)=some (Y (Hw i n) N c)/\l.cell? (Ki F 0)=some (Y (Hw m o) N q))
      (first|assumption|exact L.j)
      (fail)
     go_wp2;go_ret;exact⟨by rw[x.j k (by rw[<-P.j,<-Q.j];intro e;injection e with C j;exact S j)];rfl,v.E (A.drew.J v.size)⟩
    have aM:=ru R
    have L:Hid (wr.cell? (Ki i (n+k*2))=some (Ow r)/\wr.cell? (Ki i (n+k*2+1))=some (Ow y)/\wr.cell? (Ki m (o+k*2))=some (Ow V)/\wr.cell? (Ki m (o+k*2+1))=some (Ow M)/\wr.cell? (Ki E 0)=some (Y (Hw i n) N c)/\wr.cell? (Ki F 0)=some (Y (Hw m o) N q)):=⟨H,I,J,K,s.y 0,B.y 0⟩;clear H I J K;go_upto_region 6 with fail
    go_region_held3 (λl=>l.cell? (Ki i (n+k*2))=some (Ow r)/\l.cell? (Ki i (n+k*2+1))=some (Ow y)/\l.cell? (Ki m (o+k*2))=some (Ow V)/\l.cell? (Ki m (o+k*2+1))=some (Ow M)/\l.cell? (Ki E 0)=some (Y (Hw i n) N c)/\l.cell? (Ki F 0)=some (Y (Hw m o) N q))
     (first|assumption|exact L.j)
     (fail)
    go_wp2;go_ret;exact⟨by rw[x.j k (by rw[<-P.j,<-Q.j];intro e;injection e with C j;exact R C)];rfl,v.E (A.drew.J v.size)⟩
   have aN:¬(k:Int)<(N:Int):=d
   go_wp2;go_ret;exact⟨by rw[aL.j (λf U=>W.j f (by have:=X.j;omega))];rfl,v.E (A.J v.size)⟩
 have f:g=false:=by rw[G.j];exact AH (λe=>O (by rw[e]))
 have i:¬((p.length:Int)=(t.length:Int)):=d
 clear G;subst f;go_enter func109,ntmps109;go_wp2;go_ret;exact⟨z,((D).alloc AA _).alloc σ _⟩
