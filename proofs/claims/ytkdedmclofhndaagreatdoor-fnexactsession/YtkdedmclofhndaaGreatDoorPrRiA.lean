import Derived.Test.YtkdedmclofhndaaGreatDoorPrOpS
set_option maxHeartbeats 16000000
namespace Go.Proofs.YtkdedmclofhndaaGreatDoor
open _root_.ByteArray(empty)
open Tryz
open Go.RowKit
set_option maxRecDepth 8000
set_option linter.all false
theorem kl{s t:yZ}(h:¬s=t):(s.toList == t.toList)=false:=by
 rw[BI];intro a;rw[CZ,CZ]at a;exact h (EQ (Array.toList_inj.1 a))
theorem zM{a b:List Pr}(e:a.length=b.length)(h:∀j,j<a.length->a.getD j (empty,empty)=b.getD j (empty,empty)):a=b:=by
 apply KW e
 intro i c d;have:=h i c;simpa[List.getD,c,d] using this
theorem vL{a b:List Pr}(k:Nat)(h:a.getD k (empty,empty)≠b.getD k (empty,empty)):a≠b:=λe=>h (by rw[e])
theorem Ef(a b:xA)(m o:List Pr)(c S:Nat)(w:xV)(h:Prs w a m)(T:Prs w b o)(U:m.length<=1048576)(R:o.length<=1048576):Calls prog 175 #[yI a m.length c,yI b o.length S] w λe d=>e=yT (yR (decide (m=o)))/\yX w d:=by
 obtain⟨D,q⟩:∃D,Hid (D=decide (m=o)):=⟨_,Y rfl⟩;rw[<-q.j]
 by_cases z:m.length=o.length
 ·have O:Hid ((∀j,j<m.length->m.getD j (empty,empty)=o.getD j (empty,empty))->D=true):=Y (λf=>by rw[q.j];exact AM (zM z f))
  have J:Hid (∀k,m.getD k (empty,empty)≠o.getD k (empty,empty)->D=false):=Y (λk f=>by rw[q.j];exact AH (vL k f));clear q;obtain⟨N,f⟩:∃N,N=m.length:=⟨_,rfl⟩;rw[<-z,<-f];have I:=Y f;rw[<-f]at U;have g:N=o.length:=ω
  have M:=Y g;clear f g z R;go_enter func175,ntmps175;go_wp2;go_loopw [5,13] (λ_ i wr=>∃k:Nat,k<=N/\i=Z (k:Int)/\Hid (∀j,j<k->m.getD j (empty,empty)=o.getD j (empty,empty))/\yX w wr) (λ_ i _=>N-(intOf i).toNat)
  case atStart=>exact⟨0,AL _,rfl,λj F=>absurd F ω,AB _ _⟩
  case round =>
   obtain⟨k,W,rfl,H,r⟩:=hrel
   by_cases V:k<N
   ·have Q:(k:Int)<(N:Int):=ω
    obtain⟨f,i,n,p,rfl,s,t,A⟩:=(h.I r).at (k:=k) (by have:=I.j;omega);obtain⟨g,l,G,y,rfl,u,v,B⟩:=(T.I r).at (k:=k) (by have:=M.j;omega)
    by_cases C:n=G
    ·subst C
     by_cases E:p=y
     ·subst E
      have x:Hid (wr.cell? (yA f (i+k*2))=some (yQ n)/\wr.cell? (yA f (i+k*2+1))=some (yQ p)/\wr.cell? (yA g (l+k*2))=some (yQ n)/\wr.cell? (yA g (l+k*2+1))=some (yQ p)):=⟨s,t,u,v⟩;clear s t u v;go_upto_region 6 with fail
      go_region_held3 (λd=>d.cell? (yA f (i+k*2))=some (yQ n)/\d.cell? (yA f (i+k*2+1))=some (yQ p)/\d.cell? (yA g (l+k*2))=some (yQ n)/\d.cell? (yA g (l+k*2+1))=some (yQ p))
       (first|assumption|exact x.j)
       (fail)
      go_wp2;go_roundw
      case rel=>exact⟨k+1,ω,ν,λj F=>by
        by_cases e:j=k
        ·subst e;rw[<-A.j,<-B.j]
        exact H.j j ω,r.drew⟩
      case measure=>simp[intOf];omega
     have P:=kl E
     have x:Hid (wr.cell? (yA f (i+k*2))=some (yQ n)/\wr.cell? (yA f (i+k*2+1))=some (yQ p)/\wr.cell? (yA g (l+k*2))=some (yQ n)/\wr.cell? (yA g (l+k*2+1))=some (yQ y)):=⟨s,t,u,v⟩;clear s t u v;go_upto_region 6 with fail
     go_region_held3 (λd=>d.cell? (yA f (i+k*2))=some (yQ n)/\d.cell? (yA f (i+k*2+1))=some (yQ p)/\d.cell? (yA g (l+k*2))=some (yQ n)/\d.cell? (yA g (l+k*2+1))=some (yQ y))
      (first|assumption|exact x.j)
      (fail)
     go_wp2;go_ret;exact⟨by rw[J.j k (by rw[<-A.j,<-B.j];intro e;injection e with K L;exact E L)];rfl,r.drew⟩
    have P:=kl C
    have x:Hid (wr.cell? (yA f (i+k*2))=some (yQ n)/\wr.cell? (yA f (i+k*2+1))=some (yQ p)/\wr.cell? (yA g (l+k*2))=some (yQ G)/\wr.cell? (yA g (l+k*2+1))=some (yQ y)):=⟨s,t,u,v⟩;clear s t u v;go_upto_region 6 with fail
    go_region_held3 (λd=>d.cell? (yA f (i+k*2))=some (yQ n)/\d.cell? (yA f (i+k*2+1))=some (yQ p)/\d.cell? (yA g (l+k*2))=some (yQ G)/\d.cell? (yA g (l+k*2+1))=some (yQ y))
     (first|assumption|exact x.j)
     (fail)
    go_wp2;go_ret;exact⟨by rw[J.j k (by rw[<-A.j,<-B.j];intro e;injection e with K L;exact C K)];rfl,r.drew⟩
   have Q:¬(k:Int)<(N:Int):=ω
   go_wp2;go_ret;exact⟨by rw[O.j (λj F=>H.j j (by have:=I.j;omega))];rfl,r⟩
 have d:D=false:=by rw[q.j];exact AH (λe=>z (by rw[e]))
 have f:¬((m.length:Int)=(o.length:Int)):=ω
 clear q;subst d;go_enter func175,ntmps175;go_wp2;go_ret;exact⟨rfl,AB _ _⟩
theorem I4(a b:xA)(m q:List Pr)(c n:Nat)(w:xV)(h:Prs w a m)(L:Prs w b q)(hl:m.length<=1048576)(aO:q.length<=1048576):Calls prog 85 #[LR a m.length c,LR b q.length n] w λe d=>e=yT (yR (decide (m=q)))/\yX w d:=by
 obtain⟨D,z⟩:∃D,Hid (D=decide (m=q)):=⟨_,Y rfl⟩;rw[<-z.j]
 by_cases G:m.length=q.length
 ·have V:Hid ((∀j,j<m.length->m.getD j (empty,empty)=q.getD j (empty,empty))->D=true):=Y (λf=>by rw[z.j];exact AM (zM G f))
  have R:Hid (∀k,m.getD k (empty,empty)≠q.getD k (empty,empty)->D=false):=Y (λk f=>by rw[z.j];exact AH (vL k f));clear z;obtain⟨N,f⟩:∃N,N=m.length:=⟨_,rfl⟩;rw[<-G,<-f];have Q:=Y f;rw[<-f]at hl;have g:N=q.length:=ω
  have U:=Y g;clear f g G aO;go_enter func85,ntmps85;have p:=LS w #[yI a N c] 37;have u:=NZ (w.alloc (.cells #[yI a N c] 37)) #[yI b N n] 37 (w.heap.size+1) σ;have p:=p.alloc (.cells #[yI b N n] 37);have r:yX w ((w.alloc (.cells #[yI a N c] 37)).alloc (.cells #[yI b N n] 37)):=((AB _ _).alloc (AA _) _).alloc σ _;go_wp2;obtain⟨v,f⟩:∃x,x=w.heap.size:=⟨_,rfl⟩;obtain⟨y,g⟩:∃x,x=w.heap.size+1:=⟨_,rfl⟩;obtain⟨v0,i⟩:∃x,x=((w.alloc (.cells #[yI a N c] 37)).alloc (.cells #[yI b N n] 37)):=⟨_,rfl⟩;rw[<-i]at p u r;rw[<-f]at p;rw[<-g]at u;rw[<-i,<-g,<-f];have h:=h.I r;have L:=L.I r;clear i g;clear f;go_loopw [5] (λi wr=>∃k:Nat,k<=N/\i=Z (k:Int)/\Hid (∀j,j<k->m.getD j (empty,empty)=q.getD j (empty,empty))/\yX v0 wr) (λi _=>N-(intOf i).toNat)
  case atStart=>exact⟨0,AL _,rfl,λj M=>absurd M ω,AB _ _⟩
  case round =>
   obtain⟨k,hk,rfl,P,t⟩:=hrel;have p:=p.I t;have u:=u.I t;have aQ:=p.y 0;have aR:=p.lt
   by_cases aP:k<N
   ·have X:(k:Int)<(N:Int):=ω
    obtain⟨f,i,o,s,rfl,x,A,H⟩:=(h.I t).at (k:=k) (by have:=Q.j;omega);obtain⟨g,l,O,F,rfl,B,C,I⟩:=(L.I t).at (k:=k) (by have:=U.j;omega)
    by_cases J:o=O
    ·subst J
     by_cases K:s=F
     ·subst K
      have E:Hid (wr.cell? (yA f (i+k*2))=some (yQ o)/\wr.cell? (yA f (i+k*2+1))=some (yQ s)/\wr.cell? (yA g (l+k*2))=some (yQ o)/\wr.cell? (yA g (l+k*2+1))=some (yQ s)/\wr.cell? (yA v 0)=some (yI (zY f i) N c)/\wr.cell? (yA y 0)=some (yI (zY g l) N n)):=⟨x,A,B,C,p.y 0,u.y 0⟩;clear x A B C;go_upto_region 6 with fail
      go_region_held3 (λd=>d.cell? (yA f (i+k*2))=some (yQ o)/\d.cell? (yA f (i+k*2+1))=some (yQ s)/\d.cell? (yA g (l+k*2))=some (yQ o)/\d.cell? (yA g (l+k*2+1))=some (yQ s)/\d.cell? (yA v 0)=some (yI (zY f i) N c)/\d.cell? (yA y 0)=some (yI (zY g l) N n))
       (first|assumption|exact E.j)
       (fail)
      go_wp2;go_roundw
      case rel=>exact⟨k+1,ω,ν,λj M=>by
        by_cases e:j=k
        ·subst e;rw[<-H.j,<-I.j]
        exact P.j j ω,t.drew⟩
      case measure=>simp[intOf];omega
     have W:=kl K
     have E:Hid (wr.cell? (yA f (i+k*2))=some (yQ o)/\wr.cell? (yA f (i+k*2+1))=some (yQ s)/\wr.cell? (yA g (l+k*2))=some (yQ o)/\wr.cell? (yA g (l+k*2+1))=some (yQ F)/\wr.cell? (yA v 0)=some (yI (zY f i) N c)/\wr.cell? (yA y 0)=some (yI (zY g l) N n)):=⟨x,A,B,C,p.y 0,u.y 0⟩;clear x A B C;go_upto_region 6 with fail
     go_region_held3 (λd=>d.cell? (yA f (i+k*2))=some (yQ o)/\d.cell? (yA f (i+k*2+1))=some (yQ s)/\d.cell? (yA g (l+k*2))=some (yQ o)/\d.cell? (yA g (l+k*2+1))=some (yQ F)/\d.cell? (yA v 0)=some (yI (zY f i) N c)/\d.cell? (yA y 0)=some (yI (zY g l) N n))
      (first|assumption|exact E.j)
      (fail)
     go_wp2;go_ret;exact⟨by rw[R.j k (by rw[<-H.j,<-I.j];intro e;injection e with S T;exact K T)];rfl,r.E (t.drew.J r.size)⟩
    have W:=kl J
    have E:Hid (wr.cell? (yA f (i+k*2))=some (yQ o)/\wr.cell? (yA f (i+k*2+1))=some (yQ s)/\wr.cell? (yA g (l+k*2))=some (yQ O)/\wr.cell? (yA g (l+k*2+1))=some (yQ F)/\wr.cell? (yA v 0)=some (yI (zY f i) N c)/\wr.cell? (yA y 0)=some (yI (zY g l) N n)):=⟨x,A,B,C,p.y 0,u.y 0⟩;clear x A B C;go_upto_region 6 with fail
    go_region_held3 (λd=>d.cell? (yA f (i+k*2))=some (yQ o)/\d.cell? (yA f (i+k*2+1))=some (yQ s)/\d.cell? (yA g (l+k*2))=some (yQ O)/\d.cell? (yA g (l+k*2+1))=some (yQ F)/\d.cell? (yA v 0)=some (yI (zY f i) N c)/\d.cell? (yA y 0)=some (yI (zY g l) N n))
     (first|assumption|exact E.j)
     (fail)
    go_wp2;go_ret;exact⟨by rw[R.j k (by rw[<-H.j,<-I.j];intro e;injection e with S T;exact J S)];rfl,r.E (t.drew.J r.size)⟩
   have X:¬(k:Int)<(N:Int):=ω
   go_wp2;go_ret;exact⟨by rw[V.j (λj M=>P.j j (by have:=Q.j;omega))];rfl,r.E (t.J r.size)⟩
 have d:D=false:=by rw[z.j];exact AH (λe=>G (by rw[e]))
 have f:¬((m.length:Int)=(q.length:Int)):=ω
 clear z;subst d;go_enter func85,ntmps85;go_wp2;go_ret;exact⟨rfl,((AB _ _).alloc (AA _) _).alloc σ _⟩
