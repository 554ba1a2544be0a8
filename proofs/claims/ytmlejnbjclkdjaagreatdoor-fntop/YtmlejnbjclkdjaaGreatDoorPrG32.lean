import Derived.Test.YtmlejnbjclkdjaaGreatDoorPrOpS
import Derived.Test.YtmlejnbjclkdjaaGreatDoorPrPfS
import Derived.Lib.AppendZeros
import Derived.Test.YtmlejnbjclkdjaaGreatDoorPrWdM
set_option maxHeartbeats 32000000
set_option maxRecDepth 8000
set_option linter.all false
namespace Go.Proofs.YtmlejnbjclkdjaaGreatDoor
open _root_.ByteArray(empty)
section
open Tryz
open Go.RowKit
variable {cs:List Nc}{B SB c k lo n:Nat}{a:M6}{e:TypeId}{w:Nb}
theorem cu{s t:Y}(h:¬s=t):(s.toList == t.toList)=false:=by
 rw[EO];intro b;rw[DF,DF]at b;exact h (EP (Array.toList_inj.1 b))
theorem wR{b d:List Pr}(l:b.length=d.length)(h:∀j,j<b.length->b.getD j (empty,empty)=d.getD j (empty,empty)):b=d:=by
 apply KR l
 intro i f g;have:=h i f;simpa[List.getD,f,g] using this
theorem tE{b d:List Pr}(k:Nat)(h:b.getD k (empty,empty)≠d.getD k (empty,empty)):b≠d:=λe=>h (by rw[e])
theorem Aq(a b:M6)(m p:List Pr)(c U:Nat)(w:Nb)(h:Prs w a m)(V:Prs w b p)(W:m.length<=1048576)(T:p.length<=1048576):Calls prog 105 #[.slice a m.length c,.slice b p.length U] w λe d=>e=M3 (M0 (decide (m=p)))/\Below w.heap.size w d:=by
 obtain⟨D,r⟩:∃D,Hid (D=decide (m=p)):=⟨_,Z rfl⟩;rw[<-r.l]
 by_cases A:m.length=p.length
 ·have Q:Hid ((∀j,j<m.length->m.getD j (empty,empty)=p.getD j (empty,empty))->D=true):=Z (λf=>by rw[r.l];exact AL (wR A f))
  have L:Hid (∀k,m.getD k (empty,empty)≠p.getD k (empty,empty)->D=false):=Z (λk f=>by rw[r.l];exact AI (tE k f));clear r;obtain⟨N,f⟩:∃N,N=m.length:=⟨_,rfl⟩;rw[<-A,<-f];have K:=Z f;rw[<-f]at W;have g:N=p.length:=ω
  have P:=Z g;clear f g A T;go_enter func105,ntmps105;go_wp2;go_loopw [5,13] (λ_ i wr=>∃k:Nat,k<=N/\i=.int .i64 (k:Int)/\Hid (∀j,j<k->m.getD j (empty,empty)=p.getD j (empty,empty))/\Below w.heap.size w wr) (λ_ i _=>N-(intOf i).toNat)
  case atStart=>exact⟨0,AM _,rfl,λj H=>absurd H ω,AB _ _⟩
  case round =>
   obtain⟨k,hk,rfl,J,s⟩:=hrel
   by_cases X:k<N
   ·have S:(k:Int)<(N:Int):=ω
    obtain⟨f,i,o,q,rfl,t,u,C⟩:=(h.I s).at (k:=k) (by have:=K.l;omega);obtain⟨g,l,I,z,rfl,v,x,E⟩:=(V.I s).at (k:=k) (by have:=P.l;omega)
    by_cases F:o=I
    ·subst F
     by_cases G:q=z
     ·subst G
      have y:Hid (wr.cell? ⟨f,i+k*2,none⟩=some (Mz o)/\wr.cell? ⟨f,i+k*2+1,none⟩=some (Mz q)/\wr.cell? ⟨g,l+k*2,none⟩=some (Mz o)/\wr.cell? ⟨g,l+k*2+1,none⟩=some (Mz q)):=⟨t,u,v,x⟩;clear t u v x;go_upto_region 6 with fail
      go_region_held3 (λd=>d.cell? ⟨f,i+k*2,none⟩=some (Mz o)/\d.cell? ⟨f,i+k*2+1,none⟩=some (Mz q)/\d.cell? ⟨g,l+k*2,none⟩=some (Mz o)/\d.cell? ⟨g,l+k*2+1,none⟩=some (Mz q))
       (first|assumption|exact y.l)
       (fail)
      go_wp2;go_roundw
      case rel=>exact⟨k+1,ω,ν,λj H=>by
        by_cases e:j=k
        ·subst e;rw[<-C.l,<-E.l]
        exact J.l j ω,s.drew⟩
      case measure=>simp[intOf];omega
     have R:=cu G
     have y:Hid (wr.cell? ⟨f,i+k*2,none⟩=some (Mz o)/\wr.cell? ⟨f,i+k*2+1,none⟩=some (Mz q)/\wr.cell? ⟨g,l+k*2,none⟩=some (Mz o)/\wr.cell? ⟨g,l+k*2+1,none⟩=some (Mz z)):=⟨t,u,v,x⟩;clear t u v x;go_upto_region 6 with fail
     go_region_held3 (λd=>d.cell? ⟨f,i+k*2,none⟩=some (Mz o)/\d.cell? ⟨f,i+k*2+1,none⟩=some (Mz q)/\d.cell? ⟨g,l+k*2,none⟩=some (Mz o)/\d.cell? ⟨g,l+k*2+1,none⟩=some (Mz z))
      (first|assumption|exact y.l)
      (fail)
     go_wp2;go_ret;exact⟨by rw[L.l k (by rw[<-C.l,<-E.l];intro e;injection e with M O;exact G O)];rfl,s.drew⟩
    have R:=cu F
    have y:Hid (wr.cell? ⟨f,i+k*2,none⟩=some (Mz o)/\wr.cell? ⟨f,i+k*2+1,none⟩=some (Mz q)/\wr.cell? ⟨g,l+k*2,none⟩=some (Mz I)/\wr.cell? ⟨g,l+k*2+1,none⟩=some (Mz z)):=⟨t,u,v,x⟩;clear t u v x;go_upto_region 6 with fail
    go_region_held3 (λd=>d.cell? ⟨f,i+k*2,none⟩=some (Mz o)/\d.cell? ⟨f,i+k*2+1,none⟩=some (Mz q)/\d.cell? ⟨g,l+k*2,none⟩=some (Mz I)/\d.cell? ⟨g,l+k*2+1,none⟩=some (Mz z))
     (first|assumption|exact y.l)
     (fail)
    go_wp2;go_ret;exact⟨by rw[L.l k (by rw[<-C.l,<-E.l];intro e;injection e with M O;exact F M)];rfl,s.drew⟩
   have S:¬(k:Int)<(N:Int):=ω
   go_wp2;go_ret;exact⟨by rw[Q.l (λj H=>J.l j (by have:=K.l;omega))];rfl,s⟩
 have d:D=false:=by rw[r.l];exact AI (λe=>A (by rw[e]))
 have f:¬((m.length:Int)=(p.length:Int)):=ω
 clear r;subst d;go_enter func105,ntmps105;go_wp2;go_ret;exact⟨rfl,AB _ _⟩
theorem kz(a b:M6)(m r:List Pr)(c o:Nat)(w:Nb)(h:Prs w a m)(O:Prs w b r)(hl:m.length<=1048576)(aO:r.length<=1048576):Calls prog 17 #[MH a m.length c,MH b r.length o] w λe d=>e=M3 (M0 (decide (m=r)))/\Below w.heap.size w d:=by
 obtain⟨D,A⟩:∃D,Hid (D=decide (m=r)):=⟨_,Z rfl⟩;rw[<-A.l]
 by_cases I:m.length=r.length
 ·have aL:Hid ((∀j,j<m.length->m.getD j (empty,empty)=r.getD j (empty,empty))->D=true):=Z (λf=>by rw[A.l];exact AL (wR I f))
  have T:Hid (∀k,m.getD k (empty,empty)≠r.getD k (empty,empty)->D=false):=Z (λk f=>by rw[A.l];exact AI (tE k f));clear A;obtain⟨N,f⟩:∃N,N=m.length:=⟨_,rfl⟩;rw[<-I,<-f];have S:=Z f;rw[<-f]at hl;have g:N=r.length:=ω
  have X:=Z g;clear f g I aO;go_enter func17,ntmps17;have q:=MT w #[.slice a N c] 31;have v:=LM (w.alloc (.cells #[.slice a N c] 31)) #[.slice b N o] 31 (w.heap.size+1) σ;have q:=q.alloc (.cells #[.slice b N o] 31);have s:Below w.heap.size w ((w.alloc (.cells #[.slice a N c] 31)).alloc (.cells #[.slice b N o] 31)):=((AB _ _).alloc (AA _) _).alloc σ _;go_wp2;obtain⟨y,f⟩:∃x,x=w.heap.size:=⟨_,rfl⟩;obtain⟨z,g⟩:∃x,x=w.heap.size+1:=⟨_,rfl⟩;obtain⟨W,i⟩:∃x,x=((w.alloc (.cells #[.slice a N c] 31)).alloc (.cells #[.slice b N o] 31)):=⟨_,rfl⟩;rw[<-i]at q v s;rw[<-f]at q;rw[<-g]at v;rw[<-i,<-g,<-f];have h:=h.I s;have O:=O.I s;clear i g;clear f;go_loopw [5] (λi wr=>∃k:Nat,k<=N/\i=.int .i64 (k:Int)/\Hid (∀j,j<k->m.getD j (empty,empty)=r.getD j (empty,empty))/\Below W.heap.size W wr) (λi _=>N-(intOf i).toNat)
  case atStart=>exact⟨0,AM _,rfl,λj P=>absurd P ω,AB _ _⟩
  case round =>
   obtain⟨k,hk,rfl,R,u⟩:=hrel;have q:=q.I u;have v:=v.I u;have aQ:=q.y 0;have aR:=q.lt
   by_cases aP:k<N
   ·have aN:(k:Int)<(N:Int):=ω
    obtain⟨f,i,p,t,rfl,x,C,J⟩:=(h.I u).at (k:=k) (by have:=S.l;omega);obtain⟨g,l,Q,H,rfl,E,F,K⟩:=(O.I u).at (k:=k) (by have:=X.l;omega)
    by_cases L:p=Q
    ·subst L
     by_cases M:t=H
     ·subst M
      have G:Hid (wr.cell? ⟨f,i+k*2,none⟩=some (Mz p)/\wr.cell? ⟨f,i+k*2+1,none⟩=some (Mz t)/\wr.cell? ⟨g,l+k*2,none⟩=some (Mz p)/\wr.cell? ⟨g,l+k*2+1,none⟩=some (Mz t)/\wr.cell? ⟨y,0,none⟩=some (.slice (Mw f i) N c)/\wr.cell? ⟨z,0,none⟩=some (.slice (Mw g l) N o)):=⟨x,C,E,F,q.y 0,v.y 0⟩;clear x C E F;go_upto_region 6 with fail
      go_region_held3 (λd=>d.cell? ⟨f,i+k*2,none⟩=some (Mz p)/\d.cell? ⟨f,i+k*2+1,none⟩=some (Mz t)/\d.cell? ⟨g,l+k*2,none⟩=some (Mz p)/\d.cell? ⟨g,l+k*2+1,none⟩=some (Mz t)/\d.cell? ⟨y,0,none⟩=some (.slice (Mw f i) N c)/\d.cell? ⟨z,0,none⟩=some (.slice (Mw g l) N o))
       (first|assumption|exact G.l)
       (fail)
      go_wp2;go_roundw
      case rel=>exact⟨k+1,ω,ν,λj P=>by
        by_cases e:j=k
        ·subst e;rw[<-J.l,<-K.l]
        exact R.l j ω,u.drew⟩
      case measure=>simp[intOf];omega
     have aM:=cu M
     have G:Hid (wr.cell? ⟨f,i+k*2,none⟩=some (Mz p)/\wr.cell? ⟨f,i+k*2+1,none⟩=some (Mz t)/\wr.cell? ⟨g,l+k*2,none⟩=some (Mz p)/\wr.cell? ⟨g,l+k*2+1,none⟩=some (Mz H)/\wr.cell? ⟨y,0,none⟩=some (.slice (Mw f i) N c)/\wr.cell? ⟨z,0,none⟩=some (.slice (Mw g l) N o)):=⟨x,C,E,F,q.y 0,v.y 0⟩;clear x C E F;go_upto_region 6 with fail
     go_region_held3 (λd=>d.cell? ⟨f,i+k*2,none⟩=some (Mz p)/\d.cell? ⟨f,i+k*2+1,none⟩=some (Mz t)/\d.cell? ⟨g,l+k*2,none⟩=some (Mz p)/\d.cell? ⟨g,l+k*2+1,none⟩=some (Mz H)/\d.cell? ⟨y,0,none⟩=some (.slice (Mw f i) N c)/\d.cell? ⟨z,0,none⟩=some (.slice (Mw g l) N o))
      (first|assumption|exact G.l)
      (fail)
     go_wp2;go_ret;exact⟨by rw[T.l k (by rw[<-J.l,<-K.l];intro e;injection e with U V;exact M V)];rfl,s.j (u.drew.z s.size)⟩
    have aM:=cu L
    have G:Hid (wr.cell? ⟨f,i+k*2,none⟩=some (Mz p)/\wr.cell? ⟨f,i+k*2+1,none⟩=some (Mz t)/\wr.cell? ⟨g,l+k*2,none⟩=some (Mz Q)/\wr.cell? ⟨g,l+k*2+1,none⟩=some (Mz H)/\wr.cell? ⟨y,0,none⟩=some (.slice (Mw f i) N c)/\wr.cell? ⟨z,0,none⟩=some (.slice (Mw g l) N o)):=⟨x,C,E,F,q.y 0,v.y 0⟩;clear x C E F;go_upto_region 6 with fail
    go_region_held3 (λd=>d.cell? ⟨f,i+k*2,none⟩=some (Mz p)/\d.cell? ⟨f,i+k*2+1,none⟩=some (Mz t)/\d.cell? ⟨g,l+k*2,none⟩=some (Mz Q)/\d.cell? ⟨g,l+k*2+1,none⟩=some (Mz H)/\d.cell? ⟨y,0,none⟩=some (.slice (Mw f i) N c)/\d.cell? ⟨z,0,none⟩=some (.slice (Mw g l) N o))
     (first|assumption|exact G.l)
     (fail)
    go_wp2;go_ret;exact⟨by rw[T.l k (by rw[<-J.l,<-K.l];intro e;injection e with U V;exact L U)];rfl,s.j (u.drew.z s.size)⟩
   have aN:¬(k:Int)<(N:Int):=ω
   go_wp2;go_ret;exact⟨by rw[aL.l (λj P=>R.l j (by have:=S.l;omega))];rfl,s.j (u.z s.size)⟩
 have d:D=false:=by rw[A.l];exact AI (λe=>I (by rw[e]))
 have f:¬((m.length:Int)=(r.length:Int)):=ω
 clear A;subst d;go_enter func17,ntmps17;go_wp2;go_ret;exact⟨rfl,((AB _ _).alloc (AA _) _).alloc σ _⟩
theorem zo(a:M6)(P:List (List Pr))(c:Nat)(m:M6)(b:List Pr)(u:Nat)(w:Nb)(h:Pst w a P)(A:Prs w m b)(W:P.length<=1048576)(J:∀r∈P,r.length<=1048576)(R:b.length<=1048576)(H:b∈P):Calls prog 16 #[.slice a P.length c,MH m b.length u] w λe l=>e=M3 (M0 true)/\Below w.heap.size w l:=by
 have L:=Z J
 have E:Hid (¬∀j,j<P.length->¬P.getD j []=b):=Z (λk=>by
  obtain⟨j,f,e⟩:=EN H
  exact k j f (by simp[List.getD,f,e]))
 clear H J;go_enter func16,ntmps16;go_upto_region 1 with fail;generalize d:w.alloc _=K;obtain⟨v,o,i⟩:=LY d;have q:=i.q;obtain⟨M,g⟩:∃X,X=w.heap.size:=⟨_,rfl⟩;rw[<-g]at q⊢;have h:=h.I v;have A:=A.I v;clear d o i g;go_wp2;go_loopw [5] (λi wr=>∃k:Nat,k<=P.length/\i=.int .i64 (k:Int)/\Hid (∀j,j<k->¬P.getD j []=b)/\Below K.heap.size K wr) (λi _=>P.length-(intOf i).toNat)
 case atStart=>exact⟨0,AM _,rfl,λj f=>absurd f ω,AB _ _⟩
 case round =>
  obtain⟨k,V,rfl,C,d⟩:=hrel;have q:=q.I d
  by_cases I:k<P.length
  ·have U:(k:Int)<(P.length:Int):=ω
   obtain⟨t,x,p,z,rfl,Q,y,F⟩:=(h.I d).at I;have D:(P.getD k []).length<=1048576:=L.l _ (by simp[List.getD,I])
   have s:Hid (¬P.getD k []=b->∀j,j<k+1->¬P.getD j []=b):=Z (λg j f=>by
    by_cases e:j=k
    ·subst e;exact g
    ·exact C.l j ω)
   obtain⟨g,i⟩:∃r,r=P.getD k []:=⟨_,rfl⟩;rw[<-i]at y F D s;clear i;go_upto_region 4 with fail;refine AN (S:=λl=>l.cell? ⟨t,x+k,none⟩=some (.slice p g.length z)/\l.cell? ⟨M,0,none⟩=some (.slice m b.length u)) κ (⟨y,q.drew.y 0⟩) (λi=>?_);refine TY 0 (.slice (Mw t x) P.length c) rfl i ?_;simp only[PS];refine TY 1 (.int .i64 (k:Int)) rfl i ?_;simp only[PS];refine TY 2 (Mv t (x+k)) rfl i ?_;simp only[PS];refine TY 3 (.agg #[.slice p g.length z]) rfl i ?_;simp only[PS];refine TY 4 (.agg #[.slice m b.length u]) rfl i ?_;simp only[PS];refine RD 5 rfl (λS O=>?_);refine LW ρ _ _ γ (kz p m g b z u _ (F.l.I (AB _ _).drew) ((A.I d).I (AB _ _).drew) D R) ?_;rintro e u1 ⟨rfl,r⟩;refine⟨_,rfl,?_⟩;have G:=(d.j ((AB wr.heap.size wr).drew.z d.size)).j (r.z d.size)
   refine O.l _ _ (⟨(r.cell (p:=⟨t,x+k,none⟩) Q).j y,(q.drew.I r).y 0⟩) (λT=>?_)
   try simp only[PS]
   refine DN ?_
   by_cases l:g=b
   ·have o:decide (g=b)=true:=AL l
    rw[o];clear o l s E;go_wp2;go_ret;exact⟨rfl,v.j (G.z v.size)⟩
   have o:decide (g=b)=false:=AI l
   rw[o];have N:=Z (s.l l);clear o l s;go_wp2;go_roundw
   case rel=>exact⟨k+1,ω,ν,N.l,G⟩
   case measure=>simp[intOf];omega
  exact absurd (λj f=>C.l j ω) E.l
theorem I7(a b:M6)(P:List (List Pr))(c d:Nat)(w:Nb)(h:Pst w a P)(K:Pst w b P)(N:P.length<=1048576)(D:∀r∈P,r.length<=1048576):Calls prog 37 #[.slice a P.length c,.slice b P.length d] w λe q=>e=M3 (M0 true)/\Below w.heap.size w q:=by
 have E:=Z D;clear D;go_enter func37,ntmps37;go_wp2;go_loopw [5] (λi wr=>∃k:Nat,k<=P.length/\i=.int .i64 (k:Int)/\Below w.heap.size w wr) (λi _=>P.length-(intOf i).toNat)
 case atStart=>exact⟨0,AM _,rfl,AB _ _⟩
 case round =>
  obtain⟨k,M,rfl,i⟩:=hrel
  by_cases u:k<P.length
  ·have J:(k:Int)<(P.length:Int):=ω
   obtain⟨j,m,p,y,rfl,G,v,A⟩:=(h.I i).at u;obtain⟨l,o,z,t,rfl,H,x,C⟩:=(K.I i).at u;have s:(P.getD k []).length<=1048576:=E.l _ (by simp[List.getD,u]);obtain⟨g,f⟩:∃r,r=P.getD k []:=⟨_,rfl⟩;rw[<-f]at v x A C s;clear f;go_upto_region 6 with fail;refine AN (S:=λq=>q.cell? ⟨j,m+k,none⟩=some (.slice p g.length y)/\q.cell? ⟨l,o+k,none⟩=some (.slice z g.length t)) κ (⟨v,x⟩) (λf=>?_);refine TY 0 (.slice (Mw j m) P.length c) rfl f ?_;simp only[PS];refine TY 1 (.int .i64 (k:Int)) rfl f ?_;simp only[PS];refine TY 2 (Mv j (m+k)) rfl f ?_;simp only[PS];refine TY 3 (.agg #[.slice p g.length y]) rfl f ?_;simp only[PS];refine TY 4 (.slice (Mw l o) P.length d) rfl f ?_;simp only[PS];refine TY 5 (.int .i64 (k:Int)) rfl f ?_;simp only[PS];refine TY 6 (Mv l (o+k)) rfl f ?_
   simp only[PS];refine TY 7 (.agg #[.slice z g.length t]) rfl f ?_;simp only[PS];refine RD 8 rfl (λL F=>?_);refine LW ρ _ _ γ (kz p z g g y t _ (A.l.I (AB _ _).drew) (C.l.I (AB _ _).drew) s s) ?_;rintro e u1 ⟨rfl,q⟩;refine⟨_,rfl,?_⟩;have I:=(i.j ((AB wr.heap.size wr).drew.z i.size)).j (q.z i.size);rw[AL (rfl:g=g)];refine F.l _ _ (⟨(q.cell (p:=⟨j,m+k,none⟩) G).j v,(q.cell (p:=⟨l,o+k,none⟩) H).j x⟩) (λr=>?_)
   try simp only[PS]
   refine TY 9 (M0 false) rfl r ?_;simp only[PS];refine DN ?_;go_wp2;go_roundw
   case rel=>exact⟨k+1,ω,ν,I⟩
   case measure=>simp[intOf];omega
  have J:¬(k:Int)<(P.length:Int):=ω
  go_wp2;go_ret;exact⟨rfl,i⟩
theorem Cz(W S L T H F R U O:Int)(a b:M6)(i:List Pr)(c d:Nat)(w:Nb)(h:Prs w a i)(l:Prs w b i)(q:i.length<=1048576):Calls prog 36 #[NK W S L T H F R U O a i.length c,NK W S L T H F R U O b i.length d] w λe f=>e=M3 (M0 true)/\Below w.heap.size w f:=by
 unfold NK;go_enter func36,ntmps36;go_upto_region 1 with fail;generalize f:w.alloc _=s;obtain⟨g,o,p⟩:=LY f;clear f;have f:Below w.heap.size w s:=g;clear g;generalize m:s.alloc _=u;obtain⟨g,t,j⟩:=LY m;clear m;rw[o]at j;replace f:=f.j (g.z f.size);have m:=(p.I g).q;have r:=j.q;clear g p j t o;have h:=h.I f;have l:=l.I f;obtain⟨j,o,p,t,v,x,y,z,A,C,D⟩:=c10 m;obtain⟨E,G,I,J,K,M,N,P,Q,V,X⟩:=c10 r;clear m r;go_wp2_with fail;refine(kz a b i i c d u h l q q).z ?_;rw[AL (rfl:i=i)];rintro e m ⟨rfl,g⟩;replace f:=f.j (g.z f.size);clear g;go_wp2;go_ret;exact⟨rfl,f⟩
theorem Gn(x:Wo)(q r:Wp)(w:Nb)(h:x.at w q)(f:x.at w r)(hm:x.le 1048576):Calls prog 9 #[MB x q,MB x r] w λe b=>e=M3 (M0 true)/\Below w.heap.size w b:=by
 unfold MB;go_enter func9,ntmps9;go_upto_region 1 with fail;generalize d:w.alloc _=v1;obtain⟨b,j,o⟩:=LY d;clear d;have d:Below w.heap.size w v1:=b;clear b;generalize i:v1.alloc _=v2;obtain⟨b,p,g⟩:=LY i;clear i;rw[j]at g;replace d:=d.j (b.z d.size);have l:=(o.I b).q;have m:=g.q;clear b o g p j;have i:=Z (h.I d);have j:=Z (f.I d);clear h f;have h:=i.l;have f:=j.l;have g:=Z (am q.a r.a x.ss q.c r.c q.a' r.a' x.ws q.c' r.c' v2 h.h1 f.h1 h.h2 f.h2 hm.l1 hm.l2);clear h f;unfold LF at g;obtain⟨F,G,H,I,J,K,L,M,N,O,o,p,s,t,u,v,P⟩:=c16 l;obtain⟨Q,R,S,T,U,V,W,X,q8,q9,y,z,A,C,D,E,ql⟩:=c16 m;go_wp2_with fail;refine g.l.z ?_;rintro e v3 ⟨rfl,b⟩;replace d:=d.j (b.z d.size);replace l:=l.I b;replace m:=m.I b;replace i:=Z (i.l.I b);replace j:=Z (j.l.I b)
 clear b g F G H I J K L M N O o p s t u v P Q R S T U V W X q8 q9 y z A C D E ql;have h:=i.l;have f:=j.l;have g:=Z (Cz x.W x.S x.L x.T x.H x.F x.R x.U x.O q.s r.s x.rs q.cs r.cs v3 h.h3 f.h3 hm.l3);clear h f;unfold NK at g;obtain⟨F,G,H,I,J,K,L,M,N,O,o,p,s,t,u,v,P⟩:=c16 l;obtain⟨Q,R,S,T,U,V,W,X,q8,q9,y,z,A,C,D,E,ql⟩:=c16 m;go_wp2_with fail;refine g.l.z ?_;rintro e v4 ⟨rfl,b⟩;replace d:=d.j (b.z d.size);replace l:=l.I b;replace m:=m.I b;replace i:=Z (i.l.I b);replace j:=Z (j.l.I b);clear b g F G H I J K L M N O o p s t u v P Q R S T U V W X q8 q9 y z A C D E ql;have h:=i.l;have f:=j.l;have g:=Z (I7 q.p r.p x.P q.cp r.cp v4 h.h4 f.h4 hm.l4 (λr b=>(hm.s4 r b).1));clear h f;obtain⟨F,G,H,I,J,K,L,M,N,O,o,p,s,t,u,v,P⟩:=c16 l
 obtain⟨Q,R,S,T,U,V,W,X,q8,q9,y,z,A,C,D,E,ql⟩:=c16 m;go_wp2_with fail;refine g.l.z ?_;rintro e v5 ⟨rfl,b⟩;replace d:=d.j (b.z d.size);replace l:=l.I b;replace m:=m.I b;replace i:=Z (i.l.I b);replace j:=Z (j.l.I b);clear b g F G H I J K L M N O o p s t u v P Q R S T U V W X q8 q9 y z A C D E ql;have h:=i.l;have f:=j.l;have g:=Z (VA q.t r.t x.ts q.ct r.ct v5 h.h5 f.h5 hm.l5);clear h f;obtain⟨F,G,H,I,J,K,L,M,N,O,o,p,s,t,u,v,P⟩:=c16 l;obtain⟨Q,R,S,T,U,V,W,X,q8,q9,y,z,A,C,D,E,ql⟩:=c16 m;go_wp2_with fail;refine g.l.z ?_;rintro e v6 ⟨rfl,b⟩;replace d:=d.j (b.z d.size);replace l:=l.I b;replace m:=m.I b;replace i:=Z (i.l.I b);replace j:=Z (j.l.I b);clear b g F G H I J K L M N O o p s t u v P Q R S T U V W X q8 q9 y z A C D E ql
 go_wp2;go_ret;exact⟨rfl,d⟩
def OD(e:Ev)(a:M6)(c:Nat)(f:M6)(d:Nat):Nc:=.agg #[.int .i64 e.K,.slice a e.b.length c,.int .i64 e.cut,.slice f e.fs.length d]
structure Ev.le(e:Ev):Prop where
 b:e.b.length<=1048576/\∀x∈e.b,x.1.size<=1048576/\x.2.1.size<=1048576
 f:e.fs.length<=1048576
theorem ni{f:List Pr}{d:List OpT}{b:M6}(h:OwnDn w f d a b)(m:∀g,blk a f.length=some g->lo<=g)(o:∀g,blk b d.length=some g->lo<=g):Dep w lo w.heap.size (λW=>OwnDn W f d a b) :=⟨h,AA _,λl i j=>⟨(LS h.s SM m).keep l i j,(LS h.p jk o).keep l i j,h.ne⟩⟩
def zi(w d:Nb)(r:Ending)(D:Dd)(u:Bool):Prop:=∃a c b e,r=M3 (.tuple #[NZ D a c b e,M0 u])/\D.rs.length<=c/\OwnDn d D.rs D.ops a b/\(∀g,blk a D.rs.length=some g->w.heap.size<=g)/\(∀g,blk b D.ops.length=some g->w.heap.size<=g)/\Below w.heap.size w d
theorem YS:(prog.info? 99).map (·.size)=some 12:=κ
theorem Ha(x:Wo)(q:Wp)(f:M6)(r:List Int)(d:Nat)(F:Nat->Prop)(w:Nb)(h:WoF x w F q)(u:x.le 1048576)(E:Ints w f r)(K:r.length<=1048576):Calls prog 74 #[MB x q,.slice f r.length d] w λe b=>ju w b F e (x.pow r):=by
 have t:=Z (λb j g k3=>WQ q.a x.ss q.c q.a' x.ws q.c' f r d b j g k3 K u.l1 u.l2 u.s1 u.s2);obtain⟨i,v⟩:∃i,Hid (i=MN r x.ss x.ws):=⟨_,Z rfl⟩;rw[<-v.l]at t;unfold LF at t;have A:=Z E;clear E;unfold MB;go_enter func74,ntmps74;go_upto_region 1 with fail;generalize b:w.alloc _=L;obtain⟨l,s,y⟩:=LY b;clear b;generalize b:L.alloc _=H;obtain⟨m,C,o⟩:=LY b;clear b;rw[s]at o;have p:=l.j (m.z l.size);have hF:=(h.z (G:=λb=>(F b/\b<w.heap.size)\/w.heap.size+2<=b) (λb g k=>.inl ⟨k,g⟩)).I p;have g:=(y.I m).q;have z:=o.q;have G:w.heap.size+2<=H.heap.size:=ω
 clear l m y o s C h;have l:=g.y 1;have m:=g.y 2;have s:=g.lt;go_wp2_with fail;clear l m s;refine(t.l _ hF.h1.q hF.h2.q (A.l.I p)).z ?_;rintro M I ⟨l,j,m,o,rfl,D,C,s⟩
 have y:DepF I (λb=>(F b/\b<w.heap.size)\/w.heap.size+2<=b) (λW=>Strs W l i):=(NE (LS (lo:=H.heap.size) D VE C) (λb k _=>.inr ω)).map λW k=>k.strs
 replace hF:=hF.I s;replace g:=g.I s;replace z:=z.I s;replace p:=p.j (s.z p.size);clear D C s t A G;have D:=g.y 1;have G:=g.y 2;have J:=g.y 3;have t:=g.A 1;have A:=g.A 2;have C:=g.A 3;have s:=g.lt;go_upto_region 3 with fail;clear D t G A J C;refine BE ?_;refine LU rfl (.agg (sK 0 0 0 0 0 0 0 0 0 (.slice none 0 0))) γ ?_;simp only[PS];refine MS rfl _ _ _ rfl (Mv w.heap.size 4) γ ?_;simp only[PS];have G:=QC (QC (QC (BY I (some w.heap.size)) 1 (.slice l i.length j)) 2 (.slice m 0 o)) 3 (M0 false);have R:=((g.set 1 σ (.slice l i.length j)).set 2 σ (.slice m 0 o)).set 3 σ (M0 false);generalize t:World.setCell (World.setCell (World.setCell _ _ _) _ _) _ _=A at G R⊢
 clear t s;have s:Row A w.heap.size [.int .i64 x.w,.slice l i.length j,.slice m 0 o,M0 false,.int .i64 x.W,.int .i64 x.S,.int .i64 x.L,.int .i64 x.T,.int .i64 x.H,.int .i64 x.F,.int .i64 x.R,.int .i64 x.U,.int .i64 x.O,.slice q.s x.rs.length q.cs,.slice q.p x.P.length q.cp,.slice q.t x.ts.length q.ct]:=R;clear R;refine BI rfl 33 _ _ rfl w.heap.size 4 (sK 0 0 0 0 0 0 0 0 0 (.slice none 0 0)) rfl rfl (Row.thereMid (pre:=[.int .i64 x.w,.slice l i.length j,.slice m 0 o,M0 false]) (cs:=(sJ x.W x.S x.L x.T x.H x.F x.R x.U x.O (.slice q.s x.rs.length q.cs))) (post:=[.slice q.p x.P.length q.cp,.slice q.t x.ts.length q.ct]) s rfl) aw κ ?_
 try simp only[PS]
 replace G:=QG G (LG A w.heap.size 4 (sJ 0 0 0 0 0 0 0 0 0 (.slice none 0 0)));have t:Row _ w.heap.size [.int .i64 x.w,.slice l i.length j,.slice m 0 o,M0 false,.int .i64 0,.int .i64 0,.int .i64 0,.int .i64 0,.int .i64 0,.int .i64 0,.int .i64 0,.int .i64 0,.int .i64 0,.slice none 0 0,.slice q.p x.P.length q.cp,.slice q.t x.ts.length q.ct]:=Row.setsMid (pre:=[.int .i64 x.w,.slice l i.length j,.slice m 0 o,M0 false]) (cs:=(sJ x.W x.S x.L x.T x.H x.F x.R x.U x.O (.slice q.s x.rs.length q.cs))) (post:=[.slice q.p x.P.length q.cp,.slice q.t x.ts.length q.ct]) s (sJ 0 0 0 0 0 0 0 0 0 (.slice none 0 0)) rfl;generalize C:A.setCells _ _ _=J at G t⊢;clear C s g;go_upto_region 4 with fail;refine BE ?_;refine AS rfl 36 _ rfl w.heap.size 0 rfl _ _ t.range underlying36 rfl MO ?_;simp only[PS];have g:=z.J G (λe=>by injection e with e;omega)
 refine BI rfl 36 _ _ rfl (w.heap.size+1) 0 #[.int .i64 x.w,.slice l i.length j,.slice m 0 o,M0 false,.int .i64 0,.int .i64 0,.int .i64 0,.int .i64 0,.int .i64 0,.int .i64 0,.int .i64 0,.int .i64 0,.int .i64 0,.slice none 0 0,.slice q.p x.P.length q.cp,.slice q.t x.ts.length q.ct] rfl rfl (g.there rfl) MO κ ?_
 try simp only[PS]
 have s:=LG J (w.heap.size+1) 0 [.int .i64 x.w,.slice l i.length j,.slice m 0 o,M0 false,.int .i64 0,.int .i64 0,.int .i64 0,.int .i64 0,.int .i64 0,.int .i64 0,.int .i64 0,.int .i64 0,.int .i64 0,.slice none 0 0,.slice q.p x.P.length q.cp,.slice q.t x.ts.length q.ct];have C:=g.sets [.int .i64 x.w,.slice l i.length j,.slice m 0 o,M0 false,.int .i64 0,.int .i64 0,.int .i64 0,.int .i64 0,.int .i64 0,.int .i64 0,.int .i64 0,.int .i64 0,.int .i64 0,.slice none 0 0,.slice q.p x.P.length q.cp,.slice q.t x.ts.length q.ct] rfl;generalize D:J.setCells _ _ _=N at s C⊢;clear D t g
 try go_wp2
 have t:¬((F w.heap.size/\w.heap.size<w.heap.size)\/w.heap.size+2<=w.heap.size):=ω
 have D:¬((F (w.heap.size+1)/\w.heap.size+1<w.heap.size)\/w.heap.size+2<=w.heap.size+1):=ω
 replace hF:=(hF.J G (λg e=>by cases e;exact t)).J s (λg e=>by cases e;exact D);replace y:=(y.J G (λg e=>by cases e;exact t)).J s (λg e=>by cases e;exact D);refine LV 4 36 results74 _ rfl [.int .i64 x.w,.slice l i.length j,.slice m 0 o,M0 false,.int .i64 0,.int .i64 0,.int .i64 0,.int .i64 0,.int .i64 0,.int .i64 0,.int .i64 0,.int .i64 0,.int .i64 0,.slice none 0 0,.slice q.p x.P.length q.cp,.slice q.t x.ts.length q.ct] _ C underlying36 rfl MO rfl ⟨⟨l,j,m,o,none,0,q.p,q.cp,q.t,q.ct⟩,?_,WoF.z (F:=λb=>(F b/\b<w.heap.size)\/w.heap.size+2<=b) ⟨?_,LQ (λW=>.inl rfl),LQ (λW=>.inl rfl),hF.h4,hF.h5⟩ (λb _ k=>by rcases k with k|k;exact .inl k.1;exact .inr ω),?_⟩
 ·unfold MB Wo.pow
  rw[<-v.l];rfl
 ·unfold Wo.pow
  rw[<-v.l];exact y
 exact(p.j (NR G p.size (λx e=>by have e:=CE e;omega))).j (NR s (by have:=p.size;have:=G.size;omega) (λx e=>by have e:=CE e;omega))
theorem tb{v f:Nb}{D:Dd}{b:M6}{e:Nat}{X:Nat}{vs:List Nc}(q:w.heap.size<=X/\X<v.heap.size)(h:Below w.heap.size w v)(p:UH v f (M3 (NZ D a c b e)) D)(m:D.rs.length<=c)(o:OwnDn f D.rs D.ops a b)(i:∀g,blk a D.rs.length=some g->v.heap.size<=g)(j:∀g,blk b D.ops.length=some g->v.heap.size<=g)(l:Below v.heap.size v f)(u:Bool):zi w (f.setCells X 0 vs) (M3 (.tuple #[NZ D a c b e,M0 u])) D u:=by
 have G:=LG f X 0 vs;have d:=(NE (F:=λb=>v.heap.size<=b) (ni o i j) (λb k _=>k)).J G (λg e=>by cases e;omega);have:=h.size;exact⟨a,c,b,e,rfl,m,d.q,λg k=>by have:=i g k;omega,λg k=>by have:=j g k;omega,(h.j (l.z h.size)).j (NR G (AK h.size l.size) (λx e=>by have e:=CE e;omega))⟩
theorem yU(x:Wo)(q:Wp)(e:Ev)(a:M6)(c:Nat)(f:M6)(d:Nat)(w:Nb)(h:x.at w q)(L:x.le 1048576)(h2:Chs w a e.b)(he:e.le):Calls prog 75 #[MB x q,OD e a c f d] w λr o=>zi w o r (x.call e).1 (x.call e).2:=by
 have CO:=Z (λo z A=>Ft q.a x.ss q.c q.a' x.ws q.c' x.w o z A L.l1 L.l2 L.s1 L.s2);have CC:=Z (λo z A=>sN x.W x.S x.L x.T x.H x.F x.R x.U x.O q.s x.rs q.cs a e.b c o z L.l3 L.s3 A he.b.1 he.b.2);have CF:=Z (λo z=>Hm x.W x.S x.L x.T x.H x.F x.R x.U x.O q.s x.rs q.cs o z L.l3 L.s3);have CM:=Z (λo z=>VH x.W x.S x.L x.T x.H x.F x.R x.U x.O q.s x.rs q.cs o z L.l3 L.s3);unfold LF at CO;unfold NK at CC CF CM;obtain⟨⟨D,u⟩,J⟩:∃y,Hid (y=x.call e):=⟨_,Z rfl⟩;rw[<-J.l];have HH:=Z h;have aT:=Z h2;clear h h2;unfold MB OD;go_enter func75,ntmps75;go_upto_region 1 with fail;generalize b:w.alloc _=v1;obtain⟨j,s,t⟩:=LY b;clear b;generalize g:v1.alloc _=v2;obtain⟨b,i,l⟩:=LY g;clear g;generalize r:v2.alloc _=m;obtain⟨g,v,p⟩:=LY r;clear r;rw[s]at l i;rw[i]at p;have K:=j.j ((b.j (g.z b.size)).z j.size)
 have T:Row m w.heap.size (wL x q):=((t.I b).I g).q;have M:Row m (w.heap.size+1) [.int .i64 e.K,.slice a e.b.length c,.int .i64 e.cut,.slice f e.fs.length d]:=(l.I g).q;have r4:=p.q;clear j b g t l p s i v;have c0:=M.y 0;have cl:=M.lt
 by_cases z:e.K=1
 ·have b:(D,u)=(OP x.ss x.ws x.w,!x.up):=by rw[J.l];unfold Wo.call;rw[AE z]
  obtain⟨r,rfl⟩:=IR b;rw[<-r]at CO;have kb:(e.K == 1)=true:=by simp[z]
  clear b r J z;go_upto_region 3 with fail;clear c0 cl;have I:=(AB m.heap.size m).drew;refine AN (S:=λo=>Row o w.heap.size (wL x q)/\Row o (w.heap.size+1) [.int .i64 e.K,.slice a e.b.length c,.int .i64 e.cut,.slice f e.fs.length d]) κ (⟨T.I I,M.I I⟩) (λj=>?_);refine TK 0 (Mv w.heap.size 1) rfl (BO ⟨ρ,λw g=>by obtain⟨i,p⟩:=g;have l:=i.lt;go_simp⟩) j (TK 1 (.agg #[.slice q.a x.ss.length q.c,.slice q.a' x.ws.length q.c']) rfl (BO ⟨ρ,λw g=>by obtain⟨i,p⟩:=g;have c:=i.y 1;have d:=i.y 2;have l:=i.lt;go_simp⟩) j (TK 2 (Mv w.heap.size 0) rfl (BO ⟨ρ,λw g=>by obtain⟨i,p⟩:=g;have l:=i.lt;go_simp⟩) j (TK 3 (.int .i64 x.w) rfl (BO ⟨ρ,λw g=>by obtain⟨i,p⟩:=g;have c:=i.y 0;go_simp⟩) j (TK 5 (Mv w.heap.size 3) rfl (BO ⟨ρ,λw g=>by obtain⟨i,p⟩:=g;have l:=i.lt;go_simp⟩) j (TK 6 (M0 x.up) rfl (BO ⟨ρ,λw g=>by obtain⟨i,p⟩:=g;have c:=i.y 3;go_simp⟩) j (TY 7 (M0 (!x.up)) rfl j ?_))))))
  simp only[PS];refine RD 4 rfl (λX C=>?_);obtain⟨W,r⟩:∃y,y=m.drew:=⟨_,rfl⟩;rw[<-r];have b:Below m.heap.size m W:=by rw[r];exact(AB _ _).drew
  have E:=K.j (b.z K.size);have F:=r4.I b;have N:=T.I b;have O:=M.I b;clear r b;refine LW ρ 128 #[.agg #[.slice q.a x.ss.length q.c,.slice q.a' x.ws.length q.c'],.int .i64 x.w] γ (CO.l _ (HH.l.I E).h1 (HH.l.I E).h2) ?_;rintro r5 U ⟨r,t,s,v,rfl,Q,own,R,S,b⟩;refine⟨_,rfl,?_⟩;refine C.l _ _ (⟨N.I b,O.I b⟩) (λaL=>?_)
  try simp only[PS]
  refine RD 8 rfl (λX C=>?_);refine LH rfl 99 _ _ rfl (w.heap.size+1+1) 0 (dK D.C D.W D.S D.L D.T D.H D.F D.R D.U D.O (.slice r D.rs.length t) (.slice s D.ops.length v)) rfl rfl ((F.I b).there rfl) YS κ ?_;have G:=LG U (w.heap.size+1+1) 0 (dJ D.C D.W D.S D.L D.T D.H D.F D.R D.U D.O (.slice r D.rs.length t) (.slice s D.ops.length v));have H:=(F.I b).sets (dJ D.C D.W D.S D.L D.T D.H D.F D.R D.U D.O (.slice r D.rs.length t) (.slice s D.ops.length v)) rfl;refine C.l _ _ (⟨(N.I b).J G (λe=>by injection e with e;omega),(O.I b).J G (λe=>by injection e with e;omega)⟩) (λaF=>?_)
  try simp only[PS]
  refine TY 9 (M0 (!x.up)) rfl aF ?_;simp only[PS];refine DN ?_;have P:=Z (tb (X:=w.heap.size+1+1) (vs:=(dJ D.C D.W D.S D.L D.T D.H D.F D.R D.U D.O (.slice r D.rs.length t) (.slice s D.ops.length v))) ⟨ω,F.lt⟩ E ⟨r,t,s,v,rfl,Q,own,R,S,b⟩ Q own R S b (!x.up));generalize V:U.setCells _ _ _=y6 at H P⊢;clear V
  try go_wp2
  exact OL 4 5 99 results75 _ rfl _ rfl (dJ D.C D.W D.S D.L D.T D.H D.F D.R D.U D.O (.slice r D.rs.length t) (.slice s D.ops.length v)) _ H underlying99 rfl YS rfl P.l
 by_cases A:e.K=2
 ·have b:(D,u)=(QE x.W x.S x.L x.T x.H x.F x.R x.U x.O x.rs e.b,x.up):=by rw[J.l];unfold Wo.call;rw[AG z];rw[AE A]
  obtain⟨r,rfl⟩:=IR b;rw[<-r]at CC;have kb:(e.K == 2)=true:=by simp[A]
  have aQ:(e.K == 1)=false:=by simp[z]
  clear b r J A;go_upto_region 5 with fail;clear c0 cl;have I:=(AB m.heap.size m).drew;refine AN (S:=λo=>Row o w.heap.size (wL x q)/\Row o (w.heap.size+1) [.int .i64 e.K,.slice a e.b.length c,.int .i64 e.cut,.slice f e.fs.length d]) κ (⟨T.I I,M.I I⟩) (λj=>?_);refine TK 0 (Mv w.heap.size 4) rfl (BO ⟨ρ,λw g=>by obtain⟨i,p⟩:=g;have l:=i.lt;go_simp⟩) j (TK 1 (.agg (sK x.W x.S x.L x.T x.H x.F x.R x.U x.O (.slice q.s x.rs.length q.cs))) rfl (BO ⟨ρ,λw g=>by obtain⟨i,p⟩:=g;exact LJ 33 _ rfl _ 4 rfl (sJ x.W x.S x.L x.T x.H x.F x.R x.U x.O (.slice q.s x.rs.length q.cs)) _ (Row.rangeMid (pre:=[.int .i64 x.w,.slice q.a x.ss.length q.c,.slice q.a' x.ws.length q.c',M0 x.up]) (cs:=(sJ x.W x.S x.L x.T x.H x.F x.R x.U x.O (.slice q.s x.rs.length q.cs))) (post:=[.slice q.p x.P.length q.cp,.slice q.t x.ts.length q.ct]) i) underlying33 rfl aw⟩) j (TK 2 (Mv (w.heap.size+1) 1) rfl (BO ⟨ρ,λw g=>by obtain⟨i,p⟩:=g;have l:=p.lt;go_simp⟩) j (TK 3 (.slice a e.b.length c) rfl (BO ⟨ρ,λw g=>by obtain⟨i,p⟩:=g;have c:=p.y 1;go_simp⟩) j (TK 5 (Mv w.heap.size 3) rfl (BO ⟨ρ,λw g=>by obtain⟨i,p⟩:=g;have l:=i.lt;go_simp⟩) j (TK 6 (M0 x.up) rfl (BO ⟨ρ,λw g=>by obtain⟨i,p⟩:=g;have c:=i.y 3;go_simp⟩) j ?_)))))
  simp only[PS];refine RD 4 rfl (λX C=>?_);obtain⟨W,r⟩:∃y,y=m.drew:=⟨_,rfl⟩;rw[<-r];have b:Below m.heap.size m W:=by rw[r];exact(AB _ _).drew
  have E:=K.j (b.z K.size);have F:=r4.I b;have N:=T.I b;have O:=M.I b;clear r b;refine LW ρ 129 #[.agg (sK x.W x.S x.L x.T x.H x.F x.R x.U x.O (.slice q.s x.rs.length q.cs)),.slice a e.b.length c] γ (CC.l _ (HH.l.I E).h3 (aT.l.I E)) ?_;rintro r5 U ⟨r,t,s,v,rfl,Q,own,R,S,b⟩;refine⟨_,rfl,?_⟩;refine C.l _ _ (⟨N.I b,O.I b⟩) (λaL=>?_)
  try simp only[PS]
  refine RD 7 rfl (λX C=>?_);refine LH rfl 99 _ _ rfl (w.heap.size+1+1) 0 (dK D.C D.W D.S D.L D.T D.H D.F D.R D.U D.O (.slice r D.rs.length t) (.slice s D.ops.length v)) rfl rfl ((F.I b).there rfl) YS κ ?_;have G:=LG U (w.heap.size+1+1) 0 (dJ D.C D.W D.S D.L D.T D.H D.F D.R D.U D.O (.slice r D.rs.length t) (.slice s D.ops.length v));have H:=(F.I b).sets (dJ D.C D.W D.S D.L D.T D.H D.F D.R D.U D.O (.slice r D.rs.length t) (.slice s D.ops.length v)) rfl;refine C.l _ _ (⟨(N.I b).J G (λe=>by injection e with e;omega),(O.I b).J G (λe=>by injection e with e;omega)⟩) (λaF=>?_)
  try simp only[PS]
  refine TY 8 (M0 (x.up)) rfl aF ?_;simp only[PS];refine DN ?_;have P:=Z (tb (X:=w.heap.size+1+1) (vs:=(dJ D.C D.W D.S D.L D.T D.H D.F D.R D.U D.O (.slice r D.rs.length t) (.slice s D.ops.length v))) ⟨ω,F.lt⟩ E ⟨r,t,s,v,rfl,Q,own,R,S,b⟩ Q own R S b (x.up));generalize V:U.setCells _ _ _=y6 at H P⊢;clear V
  try go_wp2
  exact OL 4 5 99 results75 _ rfl _ rfl (dJ D.C D.W D.S D.L D.T D.H D.F D.R D.U D.O (.slice r D.rs.length t) (.slice s D.ops.length v)) _ H underlying99 rfl YS rfl P.l
 by_cases k3:e.K=3
 focus
  have b:(D,u)=(RQ x.W x.S x.L x.T x.H x.F x.R x.U x.O x.rs,x.up):=by rw[J.l];unfold Wo.call;rw[AG z];rw[AG A];rw[AE k3]
  obtain⟨r,rfl⟩:=IR b;rw[<-r]at CF;have kb:(e.K == 3)=true:=by simp[k3]
  have aQ:(e.K == 1)=false:=by simp[z]
  have aS:(e.K == 2)=false:=by simp[A]
  clear b r J k3;go_upto_region 7 with fail;clear c0 cl;have I:=(AB m.heap.size m).drew;refine AN (S:=λo=>Row o w.heap.size (wL x q)/\Row o (w.heap.size+1) [.int .i64 e.K,.slice a e.b.length c,.int .i64 e.cut,.slice f e.fs.length d]) κ (⟨T.I I,M.I I⟩) (λj=>?_);refine TK 0 (Mv w.heap.size 4) rfl (BO ⟨ρ,λw g=>by obtain⟨i,p⟩:=g;have l:=i.lt;go_simp⟩) j (TK 1 (.agg (sK x.W x.S x.L x.T x.H x.F x.R x.U x.O (.slice q.s x.rs.length q.cs))) rfl (BO ⟨ρ,λw g=>by obtain⟨i,p⟩:=g;exact LJ 33 _ rfl _ 4 rfl (sJ x.W x.S x.L x.T x.H x.F x.R x.U x.O (.slice q.s x.rs.length q.cs)) _ (Row.rangeMid (pre:=[.int .i64 x.w,.slice q.a x.ss.length q.c,.slice q.a' x.ws.length q.c',M0 x.up]) (cs:=(sJ x.W x.S x.L x.T x.H x.F x.R x.U x.O (.slice q.s x.rs.length q.cs))) (post:=[.slice q.p x.P.length q.cp,.slice q.t x.ts.length q.ct]) i) underlying33 rfl aw⟩) j (TK 3 (Mv w.heap.size 3) rfl (BO ⟨ρ,λw g=>by obtain⟨i,p⟩:=g;have l:=i.lt;go_simp⟩) j (TK 4 (M0 x.up) rfl (BO ⟨ρ,λw g=>by obtain⟨i,p⟩:=g;have c:=i.y 3;go_simp⟩) j ?_)))
  simp only[PS];refine RD 2 rfl (λX C=>?_);obtain⟨W,r⟩:∃y,y=m.drew:=⟨_,rfl⟩;rw[<-r];have b:Below m.heap.size m W:=by rw[r];exact(AB _ _).drew
  have E:=K.j (b.z K.size);have F:=r4.I b;have N:=T.I b;have O:=M.I b;clear r b;refine LW ρ 130 #[.agg (sK x.W x.S x.L x.T x.H x.F x.R x.U x.O (.slice q.s x.rs.length q.cs))] γ (CF.l _ (HH.l.I E).h3) ?_
 rotate_left
 by_cases k4:e.K=4
 focus
  have b:(D,u)=(QX x.W x.S x.L x.T x.H x.F x.R x.U x.O x.rs,x.up):=by rw[J.l];unfold Wo.call;rw[AG z];rw[AG A];rw[AG k3];rw[AE k4]
  obtain⟨r,rfl⟩:=IR b;rw[<-r]at CM;have kb:(e.K == 4)=true:=by simp[k4]
  have aQ:(e.K == 1)=false:=by simp[z]
  have aS:(e.K == 2)=false:=by simp[A]
  have aU:(e.K == 3)=false:=by simp[k3]
  clear b r J k4;go_upto_region 9 with fail;clear c0 cl;have I:=(AB m.heap.size m).drew;refine AN (S:=λo=>Row o w.heap.size (wL x q)/\Row o (w.heap.size+1) [.int .i64 e.K,.slice a e.b.length c,.int .i64 e.cut,.slice f e.fs.length d]) κ (⟨T.I I,M.I I⟩) (λj=>?_);refine TK 0 (Mv w.heap.size 4) rfl (BO ⟨ρ,λw g=>by obtain⟨i,p⟩:=g;have l:=i.lt;go_simp⟩) j (TK 1 (.agg (sK x.W x.S x.L x.T x.H x.F x.R x.U x.O (.slice q.s x.rs.length q.cs))) rfl (BO ⟨ρ,λw g=>by obtain⟨i,p⟩:=g;exact LJ 33 _ rfl _ 4 rfl (sJ x.W x.S x.L x.T x.H x.F x.R x.U x.O (.slice q.s x.rs.length q.cs)) _ (Row.rangeMid (pre:=[.int .i64 x.w,.slice q.a x.ss.length q.c,.slice q.a' x.ws.length q.c',M0 x.up]) (cs:=(sJ x.W x.S x.L x.T x.H x.F x.R x.U x.O (.slice q.s x.rs.length q.cs))) (post:=[.slice q.p x.P.length q.cp,.slice q.t x.ts.length q.ct]) i) underlying33 rfl aw⟩) j (TK 3 (Mv w.heap.size 3) rfl (BO ⟨ρ,λw g=>by obtain⟨i,p⟩:=g;have l:=i.lt;go_simp⟩) j (TK 4 (M0 x.up) rfl (BO ⟨ρ,λw g=>by obtain⟨i,p⟩:=g;have c:=i.y 3;go_simp⟩) j ?_)))
  simp only[PS];refine RD 2 rfl (λX C=>?_);obtain⟨W,r⟩:∃y,y=m.drew:=⟨_,rfl⟩;rw[<-r];have b:Below m.heap.size m W:=by rw[r];exact(AB _ _).drew
  have E:=K.j (b.z K.size);have F:=r4.I b;have N:=T.I b;have O:=M.I b;clear r b;refine LW ρ 131 #[.agg (sK x.W x.S x.L x.T x.H x.F x.R x.U x.O (.slice q.s x.rs.length q.cs))] γ (CM.l _ (HH.l.I E).h3) ?_
 rotate_left
 obtain⟨rfl,rfl⟩:=IR (show(D,u)=(LX 0,false) by rw[J.l];unfold Wo.call;rw[AG z,AG A,AG k3,AG k4]);have aQ:(e.K == 1)=false:=by simp[z]
 have aS:(e.K == 2)=false:=by simp[A]
 have aU:(e.K == 3)=false:=by simp[k3]
 have o:(e.K == 4)=false:=by simp[k4]
 go_upto_region 10 with fail;refine BE ?_;refine LU rfl (.agg (dK 0 0 0 0 0 0 0 0 0 0 (.slice none 0 0) (.slice none 0 0))) γ ?_;simp only[PS];refine BI rfl 99 _ _ rfl (w.heap.size+1+1) 0 (dK 0 0 0 0 0 0 0 0 0 0 (.slice none 0 0) (.slice none 0 0)) rfl rfl (r4.there rfl) YS κ ?_
 try simp only[PS]
 have G:=LG m (w.heap.size+1+1) 0 (dJ 0 0 0 0 0 0 0 0 0 0 (.slice none 0 0) (.slice none 0 0));have H:=r4.sets (dJ 0 0 0 0 0 0 0 0 0 0 (.slice none 0 0) (.slice none 0 0)) rfl;generalize V:m.setCells _ _ _=y6 at G H⊢;clear V
 try go_wp2
 exact OL 4 5 99 results75 _ rfl _ rfl (dJ 0 0 0 0 0 0 0 0 0 0 (.slice none 0 0) (.slice none 0 0)) _ H underlying99 rfl YS rfl ⟨none,0,none,0,rfl,AA _,⟨.inl rfl,.inl rfl,.inl rfl⟩,λg k=>(by cases k),λg k=>(by cases k),K.j (NR G K.size (λx e=>by have e:=CE e;omega))⟩
 all_goals
  rintro r5 U ⟨r,t,s,v,rfl,Q,own,R,S,b⟩;refine⟨_,rfl,?_⟩;refine C.l _ _ (⟨N.I b,O.I b⟩) (λaL=>?_)
  try simp only[PS]
  refine RD 5 rfl (λX C=>?_);refine LH rfl 99 _ _ rfl (w.heap.size+1+1) 0 (dK D.C D.W D.S D.L D.T D.H D.F D.R D.U D.O (.slice r D.rs.length t) (.slice s D.ops.length v)) rfl rfl ((F.I b).there rfl) YS κ ?_;have G:=LG U (w.heap.size+1+1) 0 (dJ D.C D.W D.S D.L D.T D.H D.F D.R D.U D.O (.slice r D.rs.length t) (.slice s D.ops.length v));have H:=(F.I b).sets (dJ D.C D.W D.S D.L D.T D.H D.F D.R D.U D.O (.slice r D.rs.length t) (.slice s D.ops.length v)) rfl;refine C.l _ _ (⟨(N.I b).J G (λe=>by injection e with e;omega),(O.I b).J G (λe=>by injection e with e;omega)⟩) (λaF=>?_)
  try simp only[PS]
  refine TY 6 (M0 (x.up)) rfl aF ?_;simp only[PS];refine DN ?_;have P:=Z (tb (X:=w.heap.size+1+1) (vs:=(dJ D.C D.W D.S D.L D.T D.H D.F D.R D.U D.O (.slice r D.rs.length t) (.slice s D.ops.length v))) ⟨ω,F.lt⟩ E ⟨r,t,s,v,rfl,Q,own,R,S,b⟩ Q own R S b (x.up));generalize V:U.setCells _ _ _=y6 at H P⊢;clear V
  try go_wp2
  exact OL 4 5 99 results75 _ rfl _ rfl (dJ D.C D.W D.S D.L D.T D.H D.F D.R D.U D.O (.slice r D.rs.length t) (.slice s D.ops.length v)) _ H underlying99 rfl YS rfl P.l
theorem dw:(prog.info? 9).map (λi=>(i.zero,i.size,i.bytes))=some (some (Mz empty),1,16):=κ
theorem mg:(prog.info? 31).map (λi=>(i.zero,i.size,i.bytes))=some (some (.agg #[.slice none 0 0]),1,24):=κ
theorem XF{P:Program}{z:Nc}{b d:Nat}(h:(P.info? e).map (λi=>(i.zero,i.size,i.bytes))=some (some z,b,d)):∃i,P.info? e=some i/\i.zero=some z/\i.size=b/\i.bytes=d:=by
 obtain⟨i,g,f⟩:=EZ.1 h;simp only[BV]at f;exact⟨i,g,f⟩
theorem qT(b:List OpT)(j:Nat)(h:j<b.length):ND (b.take (j+1))=ND (b.take j)++(if (b.getD j (false,0,empty)).1=true then [] else [(b.getD j (false,0,empty)).2.2]):=by
 rw[AY h,Cc];simp[List.getD,h]
theorem YR{x:Wo}{e:Ev}{D:Dd}{u:Bool}(b:¬e.K=5)(d:x.call e=(D,u))(h:u=false\/D.C≠0):x.doE e=x:=by unfold Wo.doE;rw[AG b,d,AE h]
theorem un{x:Wo}{e:Ev}{D:Dd}(d:¬e.K=5)(f:x.call e=(D,true))(b:D.C=0)(h:2000<(PW x e D).length\/200<(NW x e D).length):x.doE e=x:=by unfold Wo.doE;rw[AG d,f,AG (by simp[b]),AE h]
theorem xa{x:Wo}{e:Ev}{D:Dd}(d:¬e.K=5)(g:x.call e=(D,true))(b:D.C=0)(h:¬(2000<(PW x e D).length\/200<(NW x e D).length))(f:RF e D=true):x.doE e=(x.ran e D).pow e.fs:=by unfold Wo.doE;rw[AG d,g,AG (by simp[b]),AG h,AE f]
theorem vP{x:Wo}{e:Ev}{D:Dd}(f:¬e.K=5)(i:x.call e=(D,true))(b:D.C=0)(h:¬(2000<(PW x e D).length\/200<(NW x e D).length))(g:RF e D=false)(d:e.K=2):x.doE e=(x.ran e D).upS D:=by unfold Wo.doE;rw[AG f,i,AG (by simp[b]),AG h,AG (by simp[g]),AE d]
theorem uD{x:Wo}{e:Ev}{D:Dd}(f:¬e.K=5)(i:x.call e=(D,true))(b:D.C=0)(h:¬(2000<(PW x e D).length\/200<(NW x e D).length))(g:RF e D=false)(d:¬e.K=2):x.doE e={ (x.ran e D).upS D with P:=[D.rs] }:=by unfold Wo.doE;rw[AG f,i,AG (by simp[b]),AG h,AG (by simp[g]),AG d]
theorem zC(b:M6)(n f:Nat)(d:Int)(w:Nb)(j:n<=f)(l:n<=1000):Calls prog 119 #[.slice b n f,.int .i64 d] w λr g=>r=M3 (.tuple #[.slice b (if 0<=d/\d<=n then d.toNat else n) f,M0 (decide (0<=d/\d<=n))])/\g=w:=by
 go_enter func119,ntmps119
 by_cases g:0<=d
 ·by_cases i:d<=(n:Int)
  ·obtain⟨m,rfl⟩:∃m:Nat,d=(m:Int):=⟨d.toNat,ω⟩
   have k3:m<=f:=ω
   rw[AE ⟨g,i⟩,AL ⟨g,i⟩];go_wp2;exact AJ (v:=.tuple #[.slice b m f,M0 true]) (by simp[results,results119,go_sem]) rfl ⟨rfl,rfl⟩
  rw[AG (λh=>i h.2),AI (λh=>i h.2)]
  go_wp2;exact AJ (v:=.tuple #[.slice b n f,M0 false]) (by simp[results,results119,go_sem]) rfl ⟨rfl,rfl⟩
 rw[AG (λh=>g h.1),AI (λh=>g h.1)]
 go_wp2;exact AJ (v:=.tuple #[.slice b n f,M0 false]) (by simp[results,results119,go_sem]) rfl ⟨rfl,rfl⟩
theorem Ip{P:Program}(t m e:TypeId)(i:TypeInfo)(b:Nat)(l:P.underlying t=some (.slice e))(h:P.info? e=some i)(o:i.size=b)(B n:Nat)(v:Nc)(q:List Nc)(own:w.ownsRow B e b v n q)(x:Nc)(d:Src P b t x 0 [] w):(Builtin.append_ #[t,t] m #[v,x]).run P w=.ok v w:=by
 subst o;rcases own.2 with ⟨rfl,_⟩|⟨g,f,p,rfl,_,_,s,_⟩
 ·rcases d.kind with ⟨r,j⟩|j<;>simp[Builtin.append_,GG l,GG j,sizeOf,typeInfo,h,d.len,d.cells]
 exact run_append_room_src (P:=P) w t t m e i l h g 0 n f x 0 [] d ω σ σ
theorem xW(b:M6)(d:List OpT)(F:Nat)(w:Nb)(h:Ops w b d)(U:d.length<=1000):Calls prog 121 #[.slice b d.length F] w λr f=>∃v,r=M3 v/\f.ownsRow w.heap.size 9 1 v (ND d).length ((ND d).map Value.string)/\Below w.heap.size w f:=by
 obtain⟨V,f,g,i,j⟩:=XF dw;have z:=Z (AH f (AH g (AH i j)));clear f g i j;go_enter func121,ntmps121;go_wp2;go_loopw [3,8] (λg f wr=>∃j:Nat,j<=d.length/\f=.int .i64 (j:Int)/\wr.ownsRow w.heap.size 9 1 g (ND (d.take j)).length ((ND (d.take j)).map Value.string)/\Below w.heap.size w wr) (λ_ f _=>d.length-(intOf f).toNat)
 case atStart=>exact⟨0,AM _,rfl,DA _ _ _ _,AB _ _⟩
 case round =>
  rename Nc=>g
  obtain⟨j,T,rfl,i,g⟩:=hrel;have s:=bj (d.take j);rw[AP]at s;obtain⟨p,l⟩:∃y,Hid (y=ND (d.take j)):=⟨_,Z rfl⟩;rw[<-l.l]at i s
  by_cases t:j<d.length
  ·have J:(j:Int)<(d.length:Int):=ω
   have L:(0:Int)<=(j:Int):=ω
   obtain⟨O,X,G,W,x,rfl,E,Q,R,D⟩:=(h.I g).at t;have o:=qT d j t;rw[<-D.l]at o;have r:=Z o;have m:=Z i;have f:=Z g;have P:=oY E;have M:=g.size;clear i g o;have N:IntKind.i64.wrap ((j:Int)+1)=((j+1:Nat):Int):=by rw[jn _ ω ω];omega
   cases G with
   | true =>
    go_wp2;exact⟨⟨j+1,ω,ν,by rw[r.l];simpa[l.l] using(m.l.alloc _),f.l.alloc f.l.size _⟩,by simp[intOf];omega⟩
   | false =>
    go_wp2_with (at_builtin;refine QY _ rfl _ _ 23 rfl w.heap.size underlying23 z.l rfl ω _ p.length _ rfl ((m.l.alloc _).alloc _) ⟨wr.heap.size+1,0,none⟩ 1 1 [Mz x] rfl rfl (World.news_of_block (by simpa using AU (wr.alloc _) _)) (by intro u v;simp at v;subst v;rfl) τ (wr.heap.size+1+1) σ ?_;intro S I H q o y K;have C:=Z q;have A:=Z o;clear q o y);have q:ND (d.take (j+1))=p++[x]:=by rw[r.l,l.l];simp
    have o:Below w.heap.size w H:=UC ((f.l.alloc f.l.size _).alloc τ _) ((m.l.alloc _).alloc _) A.l τ;exact⟨⟨j+1,ω,ν,by rw[q];simpa using C.l,o⟩,by simp[intOf];omega⟩
  obtain rfl:j=d.length:=ω
  rw[CW]at l;have m:=Z i;have f:=Z g;clear i g;go_wp2;go_ret;rw[<-l.l];exact⟨_,rfl,m.l,f.l⟩
theorem zY(n:Nat)(w:Nb)(p:n<=100000):Calls prog 169 #[.slice none 0 0,.int .i64 (n:Int)] w λr b=>∃v,r=M3 v/\b.ownsRow w.heap.size 9 1 v 0 []/\Below w.heap.size w b:=by
 obtain⟨l,b,d,i,f⟩:=XF dw;go_enter func169,ntmps169
 by_cases j:n=0
 ·subst j
  go_wp2;go_ret;exact⟨_,rfl,DA _ _ _ _,AB _ _⟩
 have o:(0:Int)<(n:Int):=ω
 have g:=Z (λh=>Lib.run_append_nil_zeros (P:=prog) w 23 3 h 9 l _ .i64 .i64 underlying23 underlying3 b d n ω ω ω (by rw[f];omega));have m:=JG w n 0 9;have h:=IG w n 0 9 (by unfold maxLen;omega);clear b d i f;go_wp2_with (at_builtin;refine Lib.wpList_append_run _ rfl _ _ _ _ rfl _ _ rfl rfl _ _ (g.l _) ?_);go_ret;refine⟨_,rfl,⟨σ,.inr ⟨w.heap.size,_,_,rfl,AA _,AU w.drew _,ω,h,?_,σ⟩⟩,(AB _ _).drew.alloc (AA _) _⟩;simp[KF,Value.cells];omega
def TN(b:List (List Y))(j:Nat):List Y:=(b.take j).flatten
theorem oB(b:List (List Y))(j:Nat)(h:j<b.length):TN b (j+1)=TN b j++b.getD j []:=by
 unfold TN;rw[List.take_add_one,List.flatten_append];simp[BQ h,List.getD]
theorem qg(b:List (List Y)):TN b b.length=b.flatten:=by unfold TN;rw[CW]
theorem ku(b:List (List Y))(j:Nat):(TN b j).length<=(TN b b.length).length:=by
 have:=CX (λl:List (List Y)=>l.flatten.length) (FN j b);simp only[List.flatten_append,AF]at this;rw[qg];unfold TN;omega
theorem Kv(g T:Nat)(d:List (List Y))(w:Nb)(G:∀j,j<d.length->∃a c,w.cell? ⟨g,j,none⟩=some (.slice a (d.getD j []).length c)/\Strs w a (d.getD j []))(hg:g<w.heap.size)(hl:(TN d d.length).length<=10000)(hk:d.length<=100):Calls prog 120 #[.slice (Mw g 0) d.length T] w λr b=>∃v,r=M3 v/\b.ownsRow w.heap.size 9 1 v (TN d d.length).length ((TN d d.length).map Value.string)/\Below w.heap.size w b:=by
 obtain⟨H,b,f,i,l⟩:=XF dw;have h:=Z (AH b (AH f (AH i l)));clear b f i l;have D:=Z G;clear G;go_enter func120,ntmps120;go_wp2;go_loopw [3,11] (λf b wr=>∃j:Nat,j<=d.length/\b=.int .i64 (j:Int)/\f=.int .i64 (((TN d j).length:Nat):Int)/\wr=w) (λ_ b _=>d.length-(intOf b).toNat)
 case atStart=>exact⟨0,AM _,rfl,rfl,rfl⟩
 case round =>
  obtain⟨j,U,rfl,rfl,R⟩:=hrel;subst R;have z:=ku d j
  by_cases r:j<d.length
  ·have L:(j:Int)<(d.length:Int):=ω
   have S:(0:Int)<=(j:Int):=ω
   obtain⟨a,c,i,_⟩:=D.l j r;have x:=ku d (j+1);have f:=CX List.length (oB d j r);rw[AF]at f;obtain⟨m,y⟩:∃m,Hid (m=(d.getD j []).length):=⟨_,Z rfl⟩;obtain⟨n,l⟩:∃n,Hid (n=(TN d j).length):=⟨_,Z rfl⟩;rw[<-y.l]at i f;rw[<-l.l]at f z⊢;have o:¬((n:Int)+(m:Int)<0):=ω
   go_wp2
   exact⟨⟨j+1,ω,ν,by congr 2;rw[f];omega,by first|rfl|trivial⟩,by simp[intOf];omega⟩
  obtain rfl:j=d.length:=ω
  have I:=Z (zY (TN d d.length).length wr ω);go_wp2_with (go_at_call 169;refine I.l.z ?_;rintro e w2 ⟨v2,rfl,f,i⟩);go_loopw [6,27] (λl b m=>∃j:Nat,j<=d.length/\b=.int .i64 (j:Int)/\m.ownsRow wr.heap.size 9 1 l (TN d j).length ((TN d j).map Value.string)/\Below wr.heap.size wr m) (λ_ b _=>d.length-(intOf b).toNat)
  case atStart=>exact⟨0,AM _,rfl,f,i⟩
  case round =>
   rename World=>m
   rename Nc=>l
   clear f i;obtain⟨j,U,rfl,p,f⟩:=hrel;have z:=ku d j
   by_cases r:j<d.length
   ·have L:(j:Int)<(d.length:Int):=ω
    have S:(0:Int)<=(j:Int):=ω
    obtain⟨a,c,i,t⟩:=D.l j r;replace i:=OK f i;replace t:=t.I f;have x:=ku d (j+1);have q:=Z (oB d j r);rw[q.l,AF]at x;obtain⟨M,y⟩:∃M,Hid (M=d.getD j []):=⟨_,Z rfl⟩;obtain⟨J,O⟩:∃M,Hid (M=(TN d j)):=⟨_,Z rfl⟩;rw[<-y.l]at i t q x;rw[<-O.l]at p z x q;have l:=Z p;have v:=Z f;have bQ:=f.size;have lg:g<m.heap.size:=ω
    clear p f
    by_cases A:M=[]
    ·subst A
     have b:=Z (λo=>Ip (P:=prog) 23 o 9 H 1 underlying23 h.l.1 h.l.2.2.1 _ _ _ _ l.l _ (fh t _ _ underlying23 c));simp only[AR]at i b;go_wp2_with (at_builtin;refine Lib.wpList_append_run _ rfl _ _ _ _ rfl _ _ rfl rfl _ _ (b.l _) ?_);exact⟨⟨j+1,ω,ν,by rw[q.l,DZ];exact l.l,v.l⟩,by simp[intOf];omega⟩
    obtain⟨b,o,rfl,hb,E⟩:=t.resolve_left A
    have V:0<M.length:=by cases M;exact absurd rfl A;simp
    have P:Hid (∀k u,(M.map Value.string)[k]?=some u->m.cell? ((⟨b,o,none⟩:Addr).add k)=some u):=λk u C=>by
     obtain⟨s,F⟩:=DJ.1 C;simp only[BU]at s;rw[show(⟨b,o,none⟩:Addr).add k=⟨b,o+k,none⟩ by unfold Addr.add;split<;>simp_all,E k s,<-F];simp[List.getD,s]
    clear E;go_wp2_with (at_builtin;refine wpList_append_lies _ rfl _ _ 23 rfl wr.heap.size 9 H (Mz empty) 1 16 underlying23 h.l.1 h.l.2.1 h.l.2.2.1 h.l.2.2.2 rfl ω _ J.length _ rfl l.l ⟨b,o,none⟩ M.length c (M.map Value.string) rfl σ P.l (by intro u C;obtain⟨s,_,rfl⟩:=DS.1 C;rfl) V (by unfold maxLen;omega) ω ω m.heap.size rfl ?_;intro g9 X W F E K bI;have Q:=Z F;have N:=Z E;clear F E K);have E:Below wr.heap.size wr W:=UC v.l l.l N.l ω;exact⟨⟨j+1,ω,ν,by rw[q.l,AF,DK];exact Q.l,E⟩,by simp[intOf];omega⟩
   obtain rfl:j=d.length:=ω
   have l:=Z p;have v:=Z f;clear p f;go_wp2;go_ret;exact⟨_,rfl,l.l,v.l⟩
section
@[reducible] def ST(l:Int)(x:Wo)(q:Wp):List Nc:=[.int .i32 l,.int .u32 0,.int .i64 x.w,.slice q.a x.ss.length q.c,.slice q.a' x.ws.length q.c',M0 x.up,.int .i64 x.W,.int .i64 x.S,.int .i64 x.L,.int .i64 x.T,.int .i64 x.H,.int .i64 x.F,.int .i64 x.R,.int .i64 x.U,.int .i64 x.O,.slice q.s x.rs.length q.cs,.slice q.p x.P.length q.cp,.slice q.t x.ts.length q.ct]
structure Sc(w v:Nb)(SB:Nat)(cs:List Nc)(M:Nb->Prop):Prop where
 e:w.grownBy v (some SB)
 r:Row v SB cs
 m:DepF v (λb=>b≠SB) M
section
variable {w v v':Nb} {SB:Nat} {cs cs':List Nc} {M N:Nb->Prop}
theorem Sc.I(h:Sc w v SB cs M)(d:Below v.heap.size v v'):Sc w v' SB cs M :=⟨⟨d.os.j h.e.os,d.tape.j h.e.tape,d.output.j h.e.output,AK h.e.size d.size,λb f g=>(d.block b (AD f h.e.size)).j (h.e.block b f g)⟩,h.r.I d,h.m.I d⟩
theorem Sc.put(h:Sc w v SB cs M)(b:v.grownBy v' (some SB))(d:Row v' SB cs'):Sc w v' SB cs' M:=⟨QG h.e b,d,h.m.J b (λg e k=>by cases e;exact k rfl)⟩
theorem Sc.set(h:Sc w v SB cs M)(i:Nat)(b:i<cs.length)(u:Nc):Sc w (v.setCell ⟨SB,i,none⟩ u) SB (cs.set i u) M:=h.put (QC (BY _ _) _ _) (h.r.set i b u)
theorem Sc.add(h:Sc w v SB cs M)(k:DepF v (λb=>b≠SB) N):Sc w v SB cs (λW=>M W/\N W):=⟨h.e,h.r,h.m.and k⟩
theorem Sc.map(h:Sc w v SB cs M)(f:∀W,M W->N W):Sc w v SB cs N:=⟨h.e,h.r,h.m.map f⟩
theorem YA(r:Row w SB cs)(m:DepF w (λb=>b≠SB) M):Sc w w SB cs M:=⟨BY _ _,r,m⟩
end
theorem WoG.depF{f g i:List Nc}{R:Nat->List Pr}{j:List Nc}{q:Wp}{o:Nat->Nat}(h:WoG f g i n R j w q o)(l:o SB=0):DepF w (λb=>b≠SB) (λW=>WoG f g i n R j W q o) :=⟨h,λs d m=>h.only (K:=λk=>k=0) ⟨d.os,d.tape,d.output,d.size,λb p r=>m b (λe=>r (by rw[e];exact l)) p⟩ (λ_ k=>k)⟩
def YV(w d:Nb)(SB:Nat)(l:Int)(o:Nat->Nat)(y:Wo):Prop:=∃q f,Row d SB (ST l y q)/\RE y d q f/\(∀b,b<w.heap.size->f b=o b)/\w.grownBy d (some SB)/\y.rs.length<=q.cs
theorem WoG.all{g i j:List Nc}{R:Nat->List Pr}{l:List Nc}{q:Wp}{o:Nat->Nat}(h:WoG g i j n R l w q o)(m:o SB=0)(s:SB<w.heap.size):DepF w (λb=>b≠SB) (λW=>∀f:Nat->Nat,(∀b,b<w.heap.size->f b=o b)->WoG g i j n R l W q f) :=⟨λf d=>h.lab d,λt p r f d=>((h.lab d).depF ((d SB s).j m)).keep t p r⟩
theorem OwL.all{o:Nat->Nat}(h:OwL w o k a cs)(i:k≠0)(j:o SB=0)(m:SB<w.heap.size):DepF w (λb=>b≠SB) (λW=>∀g:Nat->Nat,(∀b,b<w.heap.size->g b=o b)->OwL W g k a cs) :=⟨λg f=>h.lab f,λq d l g f=>(h.lab f).only (K:=λk=>k=0) ⟨d.os,d.tape,d.output,d.size,λb p i=>l b (λe=>i (by rw[e];exact(f SB m).j j)) p⟩ i⟩
theorem PsR.all{o:Nat->Nat}{R:Nat->List Pr}{p:M6}(h:PsR w o p n R)(j:o SB=0)(m:SB<w.heap.size):DepF w (λb=>b≠SB) (λW=>∀g:Nat->Nat,(∀b,b<w.heap.size->g b=o b)->PsR W g p n R) :=⟨λg f=>h.lab f,λs d l g f=>(h.lab f).only (K:=λk=>k=0) ⟨d.os,d.tape,d.output,d.size,λb q r=>l b (λe=>r (by rw[e];exact(f SB m).j j)) q⟩ ω (λi=>ω)⟩
theorem OwL.depF{o:Nat->Nat}(h:OwL w o k a cs)(f:k≠0)(g:o SB=0):DepF w (λb=>b≠SB) (λW=>OwL W o k a cs) :=⟨h,λl d i=>h.only (K:=λk=>k=0) ⟨d.os,d.tape,d.output,d.size,λb j f=>i b (λe=>f (by rw[e];exact g)) j⟩ f⟩
theorem ij{s:Nat}{v:Nc}{f:List Nc}(h:w.ownsRow B e s v n f):∃a c,v=.slice a n c:=by
 rcases h.2 with ⟨rfl,rfl⟩|⟨g,b,d,rfl,_⟩
 ·exact⟨_,_,rfl⟩
 exact⟨_,_,rfl⟩
theorem Bk{b:List Y}(h:w.ownsRow B 9 1 (.slice a n c) b.length (b.map Value.string)):Strs w a b:=by
 rcases NU h with ⟨e,f⟩|⟨g,d,e,_,_,i⟩
 ·exact .inl (AC f)
 injection e with e;subst e;exact OwnS.strs (.inr ⟨g,rfl,i⟩)
theorem Lg{g:Nat}{f:M6}{h:Nat}{b d:List Y}(i:w.cell? ⟨g,0,none⟩=some (.slice a b.length c))(l:w.cell? ⟨g,1,none⟩=some (.slice f d.length h))(o:Strs w a b)(p:Strs w f d)(j:Nat)(m:j<[b,d].length):∃a c,w.cell? ⟨g,j,none⟩=some (.slice a ([b,d].getD j []).length c)/\Strs w a ([b,d].getD j []):=by
 match j,m with
 | 0,_=>exact⟨a,c,i,o⟩
 | 1,_=>exact⟨f,h,l,p⟩
theorem pK{s:Nat}{f:List Nc}(h:w.ownsRow B e s (.slice a n c) n f):OwnS w a f/\∀g,blk a n=some g->B<=g/\g<w.heap.size:=by
 rcases NU h with ⟨b,d⟩|⟨g,i,b,d,j,l⟩
 ·exact⟨.inl (AC (by rw[h.1,d,Nat.zero_mul])),λg k=>by rw[d]at k;simp[blk]at k⟩
 injection b with b _ _
 subst b;exact⟨.inr ⟨g,rfl,l⟩,λm k=>by rw[QJ k];exact⟨d,j⟩⟩
def YQ(N:Nat)(o:Nat->Nat)(d f:Option Nat)(b:Nat):Nat:=if b<N then o b else if d=some b then 1 else if f=some b then 2 else 4
section
variable {N:Nat} {o:Nat->Nat} {r1 r2:Option Nat} {b:Nat}
theorem Jl(h:b<N):YQ N o r1 r2 b=o b:=AE h
theorem Ga(h:N<=b)(d:r1=some b):YQ N o r1 r2 b=1:=by unfold YQ;rw[AG ω,AE d]
theorem Il(h:N<=b)(d:r2=some b)(f:r1=none\/r2=none\/r1≠r2):YQ N o r1 r2 b=2:=by unfold YQ;rw[AG ω,AG (λe=>by rw[e,d]at f;simp at f),AE d]
theorem xC(h:N<=b)(d:r1≠some b)(f:r2≠some b):YQ N o r1 r2 b=4:=by unfold YQ;rw[AG ω,AG d,AG f]
end
theorem TW{o:Nat->Nat}(h:OwnS w a cs)(f:cs≠[]->n≠0)(j:∀g,blk a n=some g->lo<=g)(i:∀g,blk a n=some g->o g=k):OwL w o k a cs :=ud h (λg b d=>i g (by rw[b];exact NT _ _ _ (f d)))
theorem VD(h:OwnS w a cs)(f:cs≠[]->n≠0)(d:∀g,blk a n=some g->lo<=g)(j:SB<lo):DepF w (λb=>b≠SB) (λW=>OwnS W a cs):=NE (LS h f d) (λb i _=>ω)
theorem qV(x:Wo)(q:Wp)(f:M6)(j:List Int)(d SB:Nat)(l:Int)(o:Nat->Nat)(w:Nb)(u:Row w SB (ST l x q))(h:RE x w q o)(h0:o SB=0)(E:Ints w f j)(s:x.le 1048576)(C:j.length<=1048576):Calls prog 69 #[Mv SB 0,.slice f j.length d] w λr b=>r=M3 (.tuple #[])/\YV w b SB l o (x.pow j):=by
 have b:=Z (WP q.a x.ss q.c q.a' x.ws q.c' f j d w h.at.h1 h.at.h2 E C s.l1 s.l2 s.s1 s.s2);unfold LF at b;have F:=u.lt;have i:=YA u (h.all h0 F);clear u E s C h;go_enter func69,ntmps69;have g:=i.r.y 3;have m:=i.r.y 4;have p:=i.r.lt;go_wp2_with fail;clear g m p;refine b.l.z ?_;rintro r v1 ⟨y,D,z,A,rfl,p,t,m⟩;replace i:=i.I m;have aN:=m.size;obtain⟨X,g⟩:∃X,Hid (X=MN j x.ss x.ws):=⟨_,Z rfl⟩;rw[<-g.l]at p t⊢;have G:Hid (x.pow j={ x with ss:=X,ws:=[],up:=false,W:=0,S:=0,L:=0,T:=0,H:=0,F:=0,R:=0,U:=0,O:=0,rs:=[] }):=Z (by rw[g.l];rfl);replace i:=i.add (VD p VE t F);clear m b g p;have g:=i.r.y 3;have m:=i.r.y 4;have P:=i.r.y 5;have Q:=i.r.y 6;have R:=i.r.y 7;have S:=i.r.y 8;have T:=i.r.y 9;have c10:=i.r.y 10;have b:=i.r.y 11
 have c12:=i.r.y 12;have v:=i.r.y 13;have H:=i.r.y 14;have I:=i.r.y 15;have U:=i.r.A 3;have V:=i.r.A 4;have W:=i.r.A 5;have f6:=i.r.A 6;have f7:=i.r.A 7;have f8:=i.r.A 8;have f9:=i.r.A 9;have J:=i.r.A 10;have K:=i.r.A 11;have L:=i.r.A 12;have M:=i.r.A 13;have N:=i.r.A 14;have O:=i.r.A 15;have p:=i.r.lt;go_wp2;clear g U m V P W Q f6 R f7 S f8 T f9 c10 J b K c12 L v M H N I O p;have p:=(((((((((((((i.set 3 σ (.slice y X.length D)).set 4 σ (.slice z 0 A)).set 5 σ (M0 false)).set 6 σ (.int .i64 0)).set 7 σ (.int .i64 0)).set 8 σ (.int .i64 0)).set 9 σ (.int .i64 0)).set 10 σ (.int .i64 0)).set 11 σ (.int .i64 0)).set 12 σ (.int .i64 0)).set 13 σ (.int .i64 0)).set 14 σ (.int .i64 0)).set 15 σ (.slice none 0 0))
 generalize World.setCell _ _ _=H at p⊢;rw[G.l];refine GO (v:=.tuple #[]) (by simp[results,results69]) rfl ⟨rfl,⟨y,D,z,A,none,0,q.p,q.cp,q.t,q.ct⟩,λb=>if b<w.heap.size then o b else 1,p.r,?_,λb m=>AE m,p.e,AM _⟩;have v:=p.m.q.1 (λb=>if b<w.heap.size then o b else 1) (λb m=>AE m);exact⟨TW p.m.q.2 VE t (λg e=>AG (by have:=t g e;omega)),.inl rfl,.inl rfl,v.h4,v.h5⟩
def Wo.no(x:Wo)(e:Ev)(D:Dd):Prop:=D.C≠0\/200<(NW x e D).length\/2000<(PW x e D).length
def Wo.runE(x:Wo)(e:Ev)(D:Dd):Wo:=if D.C≠0\/200<(NW x e D).length\/2000<(PW x e D).length then x else if RF e D=true then (x.ran e D).pow e.fs else (x.ran e D).upS D
def Wo.runB(x:Wo)(e:Ev)(D:Dd):Bool:=if D.C≠0\/200<(NW x e D).length\/2000<(PW x e D).length then false else !RF e D
theorem Fe(d:List Y)(f:List (Int×Y))(b:List OpT)(N:Nat)(h:N<=b.length):OQ d f (b.take N) (N:Int)=OQ d f b (N:Int):=by
 unfold OQ RC;simp[AP,Nat.min_eq_left h,GU]
theorem Lk{d:List OpT}(h:Ops w a d)(k:Nat):Ops w a (d.take k):=by
 rcases h with h|⟨b,o,e,f,g⟩
 ·exact .inl (by rw[h];exact List.take_nil)
 refine .inr ⟨b,o,e,f,λi j=>?_⟩
 rw[AP]at j;have:=g i ω;rw[show(d.take k).getD i (false,0,empty)=d.getD i (false,0,empty) by simp[List.getD,FY,show i<k by omega]];exact this
theorem uN(x:Wo)(q:Wp)(e:Ev)(a:M6)(c:Nat)(f:M6)(d:Nat)(D:Dd)(F:M6)(G:Nat)(z:M6)(H:Nat)(p:M6)(M SB:Nat)(l:Int)(o:Nat->Nat)(w:Nb)(hR:Row w SB (ST l x q))(h:RE x w q o)(X:o SB=0)(hp:XJ w o p (NW x e D))(hs:OwL w o 3 F (MC D.rs))(m:OwL w o 6 z (OO D.ops))(cH:D.ops.length<=H)(hf:DepF w (λb=>b≠SB) (λW=>Ints W f e.fs))(S:x.ok)(hd:D.ok)(he:e.le)(cI:x.rs.length<=q.cs)(cJ:D.rs.length<=G):Calls prog 66 #[Mv SB 0,OD e a c f d,NZ D F G z H,.slice p (NW x e D).length M] w λr u=>r=M3 (M0 (x.runB e D))/\YV w u SB l o (x.runE e D):=by
 have bZ:=Z (AH cI cJ);clear cI cJ;have g:=S.le;have T:=hR.lt;have j:=((((YA hR (h.all X T)).add (hp.all X T)).add (hs.all ω X T)).add (m.all ω X T)).add hf;clear hR h hp hs m hf;have cT:=hd.2.1;obtain⟨aY,Q⟩:∃y,Hid (y=x.runE e D):=⟨_,Z rfl⟩;obtain⟨RB,aN⟩:∃y,Hid (y=x.runB e D):=⟨_,Z rfl⟩;rw[<-Q.l,<-aN.l];obtain⟨N,O⟩:∃N,Hid (N=evN e D):=⟨_,Z rfl⟩;obtain⟨CB,aW⟩:∃b,Hid (b=RF e D):=⟨_,Z rfl⟩;have cS:N<=D.ops.length:=by rw[O.l];exact rh e D
 obtain⟨C,I⟩:∃y,Hid (y=NW x e D):=⟨_,Z rfl⟩;rw[<-I.l]at j⊢;have bU:C.length<=201:=by have:=S.p.1;rw[I.l];unfold NW;split<;>(try simp)<;>omega
 obtain⟨v,J⟩:∃y,Hid (y=PW x e D):=⟨_,Z rfl⟩;have i:Hid (∀u,Calls prog 119 #[.slice z D.ops.length H,.int .i64 e.cut] u λr s=>r=M3 (.tuple #[.slice z (evN e D) H,M0 (RF e D)])/\s=u):=Z (λu=>zC z D.ops.length H e.cut u cH cT);rw[<-O.l,<-aW.l]at i;obtain⟨A,aM⟩:∃y,Hid (y=D.ops.take N):=⟨_,Z rfl⟩;have cE:A.length=N:=by rw[aM.l,AP];omega
 have P:=Z (λu k=>xW z A H u k ω);rw[cE]at P;have b7:Hid (∀W,Ops W z D.ops->Ops W z A):=Z (λW k=>by rw[aM.l];exact Lk k N);have aZ:[x.ts,ND A].flatten=v:=by rw[J.l,aM.l,O.l];simp[PW]
 have bQ:v.length<=3000:=by have h1:=S.t.1;have h2:=bj A;rw[<-aZ];simp;omega
 have L:=Z (λu K s k3=>Gx q.a x.ss q.c q.a' x.ws q.c' z A H (N:Int) u K s k3 ω ω (λo S=>by have:=hd.2.2 o (by rw[aM.l]at S;exact DE S);omega) g.l1 g.l2 g.s1 g.s2);obtain⟨s,bE⟩:∃y,Hid (y=OQ x.ss x.ws D.ops (N:Int)):=⟨_,Z rfl⟩;rw[show OQ x.ss x.ws A (N:Int)=s by rw[bE.l,aM.l];exact Fe _ _ _ _ cS,cE]at L;have HD:=Z hd;have HM:=Z g;have HO:=Z S;have HE:=Z he;clear hd g S he cH;unfold LF at L;unfold OD NZ;go_enter func66,ntmps66;go_upto_region 1 with fail;generalize g:w.alloc _=v1;obtain⟨cF,R,V⟩:=LY g;clear g;generalize E:v1.alloc _=v2;obtain⟨t,U,g⟩:=LY E;clear E;rw[R]at g U;replace j:=(((j.I cF).I t).add (LZ (V.I t).q ω)).add (LZ g.q ω);have l2:w.heap.size+1<v2.heap.size:=ω
 clear cF t V g R U;have dH:=j.m.q.1.2.lt;have t:=j.m.q.1.2.y 2;have g:=j.m.q.2.y 11;have dl:=j.m.q.2.lt;go_wp2_with fail;clear t g;refine(i.l _).z ?_;rintro r t ⟨rfl,g⟩;rw[g];clear g t i;go_upto_region 2 with fail;have R:Hid (∀W,Below v2.heap.size v2 W->W.cell? ⟨SB,17,none⟩=some (.slice q.t x.ts.length q.ct)):=Z (λW m=>(j.I m).r.y 17);have i:=AB v2.heap.size v2;refine AN (S:=λu=>u.cell? ⟨SB,17,none⟩=some (.slice q.t x.ts.length q.ct)) κ (R.l _ i.drew) (λt=>?_);refine TY 0 (Mv SB 0) rfl t (TY 1 (Mv SB 0) rfl t (TY 2 (Mv SB 2) rfl t (TK 3 (Mv SB 17) rfl (BO ⟨ρ,λw hw=>by obtain z0:=hw;have l:=DM _ _ hw;go_simp⟩) t (TY 4 (.slice q.t x.ts.length q.ct) rfl t (TY 5 (.slice z N H) rfl t ?_)))))
 simp only[PS];refine RD 6 rfl (λKq E=>?_);replace i:=i.drew;refine LW ρ 121 #[.slice z N H] γ (P.l _ (b7.l _ ((j.I i).m.q.1.1.1.2 o (λ_ _=>rfl)).own.ops)) ?_;rintro r y1 ⟨vd,rfl,U,m⟩;refine⟨_,rfl,?_⟩;have lD:=i.size;replace i:=i.j (m.z i.size);clear m P;refine E.l _ _ (R.l _ i) (λaD=>?_)
 try simp only[PS]
 refine RD 7 rfl (λKq E=>?_);obtain⟨bV,bW,rfl⟩:∃a c,vd=.slice a (ND A).length c:=ij U;go_simp;obtain⟨y2,P⟩:∃y,y=y1.alloc (.cells #[.slice q.t x.ts.length q.ct,.slice bV (ND A).length bW] 23):=⟨_,rfl⟩;rw[<-P];have g:=MT y1 #[.slice q.t x.ts.length q.ct,.slice bV (ND A).length bW] 23;have m:=LO y1 (.cells #[.slice q.t x.ts.length q.ct,.slice bV (ND A).length bW] 23);rw[<-P]at g m;obtain⟨GB,aO⟩:∃y,y=y1.heap.size:=⟨_,rfl⟩;rw[<-aO]at g⊢;have V:=NC U m;replace i:=i.j (m.z i.size);have lY:=i.size;clear P aO m U;refine E.l _ _ (R.l _ i) (λaS=>?_)
 try simp only[PS]
 refine RD 8 rfl (λKq E=>?_);have P:=Kv GB 2 [x.ts,ND A] y2 (Lg (g.y 0) (g.y 1) ((j.I i).m.q.1.1.1.1.1.1 o (λ_ _=>rfl)).h5.own.strs (Bk V)) g.lt (by rw[qg,aZ];omega) σ;rw[qg,aZ]at P;refine LW ρ 120 #[.slice (Mw GB 0) 2 2] γ P ?_;rintro r y3 ⟨vt,rfl,ot,m⟩;refine⟨_,rfl,?_⟩;have l3:=m.size;replace i:=i.j (m.z i.size);clear m P V g;refine E.l _ _ (R.l _ i) (λaT=>?_)
 try simp only[PS]
 refine RD 9 rfl (λKq E=>?_);go_simp;refine E.l _ _ aT (λ_=>?_)
 try simp only[PS]
 refine DN ?_;obtain⟨P,U,rfl⟩:=ij ot;obtain⟨V,gT⟩:=pK ot
 have aR:∀g,blk P v.length=some g->w.heap.size<=g:=λg k=>by have:=(gT g k).1;omega
 replace j:=(j.I i).add (VD V VE aR T);clear R ot V i lD l3 aD aS aT t;have d0:=j.m.q.1.2.y 0;have dl:=j.m.q.1.2.lt;go_upto_region 3 with fail;generalize Value.tuple _=T9;generalize Value.agg _=A8;generalize Value.agg _=A9;go_cut [41] from 29 to 40 (λi t=>i=M0 (decide (D.C≠0\/200<C.length\/2000<v.length))/\t=y3)
 case first =>
  by_cases i:D.C=0
  ·have R:(D.C == 0)=true:=by simp[i]
   have t:=Z i;clear i
   by_cases t1:200<C.length
   ·have V:(200:Int)<(C.length:Int):=ω
    go_wp2_with fail;go_meet;exact⟨by rw[AL (.inr (.inl t1))],rfl⟩
   have V:¬((200:Int)<(C.length:Int)):=ω
   by_cases t2:2000<v.length
   ·have cW:(2000:Int)<(v.length:Int):=ω
    go_wp2_with fail;go_meet;exact⟨by rw[AL (.inr (.inr t2))],rfl⟩
   have cW:¬((2000:Int)<(v.length:Int)):=ω
   go_wp2_with fail;go_meet;exact⟨by rw[AI (by have:=t.l;omega)],rfl⟩
  have R:(D.C == 0)=false:=by simp[i]
  go_wp2_with fail;go_meet;exact⟨by rw[AL (.inl i)],rfl⟩
 case rest =>
 obtain⟨rfl,i⟩:=hcut;rw[i];clear i d0 dl
 by_cases t:D.C≠0\/200<C.length\/2000<v.length
 ·rw[AL t]
  have R:x=aY:=by rw[Q.l];unfold Wo.runE;rw[<-I.l,<-J.l,AE t]
  have eb:false=RB:=by rw[aN.l];unfold Wo.runB;rw[<-I.l,<-J.l,AE t]
  clear Q aN;subst R eb;have V:=Z j;clear j L t;go_wp2;refine AJ (v:=M0 false) (by simp[results,results66]) rfl ⟨rfl,q,o,V.l.r,V.l.m.q.1.1.1.1.1.1.1 o (λ_ _=>rfl),λ_ _=>rfl,V.l.e,bZ.l.1⟩
 rw[AI t];obtain⟨i,V⟩:∃y,Hid (y=x.ran e D):=⟨_,Z rfl⟩;have bG:Hid (i={ x with ss:=s.1,ws:=s.2,P:=C,ts:=v }):=Z (by rw[V.l,bE.l,I.l,J.l,O.l];rfl);have cN:Hid (i.le 1048576):=Z (by rw[V.l];exact(HO.l.ran e (d:=D) HD.l (by rw[<-I.l,<-J.l];omega)).le);have R:aY=if CB=true then i.pow e.fs else i.upS D:=by rw[Q.l,V.l,aW.l];unfold Wo.runE;rw[<-I.l,<-J.l,AG t]
 have eb:RB=!CB:=by rw[aN.l,aW.l];unfold Wo.runB;rw[<-I.l,<-J.l,AG t]
 have ER:=Z R;have EB:=Z eb;clear R eb t Q aN bE O aW V bU bQ aZ J I;have t:=j.r.y 3;have O:=j.r.y 4;have c16:=j.r.y 16;have I:=j.r.y 17;have f16:=j.r.A 16;have J:=j.r.A 17;have R:=j.r.lt;go_wp2_with fail;clear t O c16 f16 I J R;replace j:=(j.set 16 σ (.slice p C.length M)).set 17 σ (.slice P v.length U);have z6:((y3.setCell ⟨SB,16,none⟩ (.slice p C.length M)).setCell ⟨SB,17,none⟩ (.slice P v.length U)).heap.size=y3.heap.size:=by rw[BH,BH]
 generalize t:World.setCell (World.setCell _ _ _) _ _=v6 at j z6⊢;clear t;have O:=j.m.q.1.1.1.1.1.1.1 o (λ_ _=>rfl);refine(L.l _ O.h1.own.strs O.h2.own.wrs (b7.l _ (j.m.q.1.1.1.1.2 o (λ_ _=>rfl)).own.ops)).z ?_;rintro r7 v7 ⟨I,K,J,Q,rfl,t,g1,g2,m⟩;have l6:=j.e.size;have l7:=m.size
 have V:∀g,blk I s.1.length=some g->w.heap.size<=g:=λg k=>by have:=g1 g k;omega
 have gB:∀g,blk J s.2.length=some g->w.heap.size<=g:=λg k=>by have:=g2 g k;omega
 replace j:=((j.I m).add (VD t.s VE V T)).add (VD t.p ac gB T);have bT:=t.ne;clear m L t O;have t:=j.r.y 3;have O:=j.r.y 4;have L:=j.r.A 3;have f4:=j.r.A 4;have R:=j.r.lt;go_upto_region 7 with fail;clear t L O f4 R;replace j:=(j.set 3 σ (.slice I s.1.length K)).set 4 σ (.slice J s.2.length Q);have z8:((v7.setCell ⟨SB,3,none⟩ (.slice I s.1.length K)).setCell ⟨SB,4,none⟩ (.slice J s.2.length Q)).heap.size=v7.heap.size:=by rw[BH,BH]
 generalize t:World.setCell (World.setCell _ _ _) _ _=L at j z8⊢;clear t;obtain⟨O,t⟩:∃y,Hid (y=YQ w.heap.size o (blk I s.1.length) (blk J s.2.length)):=⟨_,Z rfl⟩
 have y:∀b,b<w.heap.size->O b=o b:=λb m=>by rw[t.l];exact Jl m
 have aX:DepF L (λb=>b≠SB) (λW=>RE i W ⟨I,K,J,Q,q.s,q.cs,p,M,P,U⟩ O):=j.m.map (λW ⟨⟨⟨⟨⟨⟨⟨⟨⟨mW,mP⟩,mS⟩,mO⟩,mI⟩,rE⟩,rD⟩,mT⟩,mA⟩,mB⟩=>by
  rw[bG.l];refine⟨TW mA VE V (λg k=>by rw[t.l];exact Ga (V g k) k),TW mB ac gB (λg k=>by rw[t.l];exact Il (gB g k) k bT),(mW O y).h3,mP O y,TW mT VE aR (λg k=>?_)⟩
  rw[t.l];exact xC (aR g k) (λe=>by have:=g1 g e;have:=(gT g k).2;omega) (λe=>by have:=g2 g e;have:=(gT g k).2;omega))
 have g:O SB=0:=(y SB T).j X
 cases CB with
 | true =>
  have R:=qV i ⟨I,K,J,Q,q.s,q.cs,p,M,P,U⟩ f e.fs d SB l O L (by rw[bG.l];exact j.r) aX.q g j.m.q.1.1.1.1.1.2 cN.l HE.l.f;have e3:=j.m.q.1.1.1.1.2.y 3;have el:=j.m.q.1.1.1.1.2.lt;have SE:=Z j.e;clear j aX V gB gT aR g1 g2 bT X t;have bY:=Z R;clear R;go_wp2_with fail;clear e3 el;refine bY.l.z ?_;rintro r9 v9 ⟨rfl,q2,o2,R9,W9,a9,R,K9⟩;have H9:=Z (AH R9 W9);have cM:=Z K9;have HG:=Z R;clear R9 W9 bY R K9;go_wp2;refine AJ (v:=M0 false) (by simp[results,results66]) rfl ⟨by rw[EB.l];rfl,q2,o2,?_,?_,λb m=>(a9 b ω).j (y b m),QG SE.l HG.l,by rw[ER.l];exact cM.l⟩
  ·rw[ER.l];exact H9.l.1
  rw[ER.l];exact H9.l.2
 | false =>
  have R:aY=i.upS D:=by rw[ER.l,AG σ]
  have cA:DepF L (λb=>b≠SB) (λW=>RE aY W ⟨I,K,J,Q,F,G,p,M,P,U⟩ O):=(aX.and j.m).map (λW ⟨hW,⟨⟨⟨⟨⟨⟨⟨⟨⟨mW,mP⟩,mS⟩,mO⟩,mI⟩,rE⟩,rD⟩,mT⟩,mA⟩,mB⟩⟩=>by rw[R];exact⟨hW.h1,hW.h2,mS O y,hW.h4,hW.h5⟩);replace j:=j.add cA;clear cA aX V gB gT aR g1 g2 bT X t;go_upto_region 10 with fail;refine AN (S:=λu=>Row u (w.heap.size+1) (dJ D.C D.W D.S D.L D.T D.H D.F D.R D.U D.O (.slice F D.rs.length G) (.slice z D.ops.length H))/\SB<u.heap.size) κ (⟨(j.I (AB L.heap.size L).drew).m.q.1.1.1.1.2,(j.I (AB L.heap.size L).drew).r.lt⟩) (λt=>?_);refine TY 0 (Mv SB 0) rfl t (TY 1 (Mv SB 0) rfl t (TK 2 (Mv (w.heap.size+1) 1) rfl (BO ⟨ρ,λw hw=>by obtain⟨z0,g⟩:=hw;have l:=z0.lt;go_simp⟩) t (TK 3 (.agg (sK D.W D.S D.L D.T D.H D.F D.R D.U D.O (.slice F D.rs.length G))) rfl (BO ⟨ρ,λw hw=>by obtain⟨z0,g⟩:=hw;exact LJ 33 _ rfl _ 1 rfl (sJ D.W D.S D.L D.T D.H D.F D.R D.U D.O (.slice F D.rs.length G)) _ (Row.rangeMid (pre:=[.int .i64 D.C]) (cs:=(sJ D.W D.S D.L D.T D.H D.F D.R D.U D.O (.slice F D.rs.length G))) (post:=[.slice z D.ops.length H]) z0) underlying33 rfl QI⟩) t (TY 4 (Mv SB 0) rfl t (TY 5 (Mv SB 2) rfl t (TY 6 (Mv SB 5) rfl t ?_))))))
  simp only[PS];refine RD 7 rfl (λKq E=>?_);replace j:=j.I (AB L.heap.size L).drew;generalize b:L.drew=y9 at j⊢;clear b;have b:=j.r.y 5;have u:=j.r.A 5;go_simp;clear b u;replace j:=j.set 5 σ (M0 true);generalize World.setCell _ _ _=u at j⊢;refine E.l _ _ (⟨j.m.q.1.1.1.1.2,j.r.lt⟩) (λaD=>?_)
  try simp only[PS]
  refine TY 8 (Mv SB 0) rfl aD (TY 9 (Mv SB 2) rfl aD (TY 10 (Mv SB 6) rfl aD ?_));simp only[PS];refine RD 11 rfl (λKq E=>?_);refine LH rfl 33 _ _ rfl SB 6 (sK D.W D.S D.L D.T D.H D.F D.R D.U D.O (.slice F D.rs.length G)) rfl rfl (Row.thereMid (pre:=[.int .i32 l,.int .u32 0,.int .i64 x.w,.slice I s.1.length K,.slice J s.2.length Q,M0 true]) (cs:=(sJ x.W x.S x.L x.T x.H x.F x.R x.U x.O (.slice q.s x.rs.length q.cs))) (post:=[.slice p C.length M,.slice P v.length U]) j.r rfl) QI κ ?_;replace j:=j.put (LG _ SB 6 (sJ D.W D.S D.L D.T D.H D.F D.R D.U D.O (.slice F D.rs.length G))) (Row.setsMid (pre:=[.int .i32 l,.int .u32 0,.int .i64 x.w,.slice I s.1.length K,.slice J s.2.length Q,M0 true]) (cs:=(sJ x.W x.S x.L x.T x.H x.F x.R x.U x.O (.slice q.s x.rs.length q.cs))) (post:=[.slice p C.length M,.slice P v.length U]) j.r (sJ D.W D.S D.L D.T D.H D.F D.R D.U D.O (.slice F D.rs.length G)) rfl)
  generalize World.setCells _ _ _ _=W at j⊢;refine E.l _ _ (⟨j.m.q.1.1.1.1.2,j.r.lt⟩) (λaS=>?_)
  try simp only[PS]
  refine DN ?_;have V:=Z j;have b:=Z R;clear j R;go_wp2;refine AJ (v:=M0 true) (by simp[results,results66]) rfl ⟨by rw[EB.l];rfl,⟨I,K,J,Q,F,G,p,M,P,U⟩,O,?_,?_,y,V.l.e,by rw[b.l];exact bZ.l.2⟩
  ·rw[b.l,bG.l];exact V.l.r
  exact V.l.m.q.2
end
theorem Cf:(prog.info? 3).map (λi=>(i.zero,i.size,i.bytes))=some (some (.int .i64 0),1,8):=κ
theorem oS(z:Int):∀u∈[Value.int .i64 z],u.oneCell'=true:=by intro u b;simp at b;subst b;rfl
def Ky(w b:Nb)(r:Ending):Prop:=∃(e:Ev) (d:M6) (g:Nat) (f:M6) (h:Nat),r=M3 (OD e d g f h)/\e.le/\Dep b w.heap.size b.heap.size (λW=>Chs W d e.b)/\Dep b w.heap.size b.heap.size (λW=>Ints W f e.fs)
theorem oy(R:Nat)(a:M6)(n c:Nat)(p:Int)(up:Bool)(w:Nb)(h:Rdr w R a n c p)(hp:p<99980000):Calls prog 24 #[Mv R 0,M0 up] w λr F=>Ky w F r/\dr w R a n c p 700 F:=by
 have p0:=h.p0;obtain⟨i0,b,bE,d,f⟩:=nr Cf;have HI:=Z (AH b (AH bE (AH d f)));clear b bE d f
 have b:EvD w ((w.alloc (.cells #[.int .i64 0,.slice none 0 0,.int .i64 0,.slice none 0 0] 45)).alloc (.cells #[.int .i64 0,.slice none 0 0,.int .i64 (-1),.slice none 0 0] 45)) R a n c p 0 none 0 [] (-1) (w.heap.size+2) (.slice none 0 0) []:=by
  have v:=RZ w (.cells #[.int .i64 0,.slice none 0 0,.int .i64 0,.slice none 0 0] 45);have r:=RZ (w.alloc (.cells #[.int .i64 0,.slice none 0 0,.int .i64 0,.slice none 0 0] 45)) (.cells #[.int .i64 0,.slice none 0 0,.int .i64 (-1),.slice none 0 0] 45);have d:Below w.heap.size w ((w.alloc (.cells #[.int .i64 0,.slice none 0 0,.int .i64 0,.slice none 0 0] 45)).alloc (.cells #[.int .i64 0,.slice none 0 0,.int .i64 (-1),.slice none 0 0] 45)):=v.j (r.z σ);refine⟨⟨⟨(h.I v).I r,DA _ _ _ _,UA _ d,h.lts.1,h.lts.2⟩,?_,λe=>(by cases e),ω⟩,⟨.inl rfl,σ,λ_ _ _=>.inl rfl⟩,(MT _ _ _).alloc _,λg e=>(by cases e),AA _⟩;have:=MT (w.alloc (.cells #[.int .i64 0,.slice none 0 0,.int .i64 0,.slice none 0 0] 45)) #[.int .i64 0,.slice none 0 0,.int .i64 (-1),.slice none 0 0] 45
  rwa [BD]at this
 clear h;go_enter func24,ntmps24;go_wp2_with fail;refine(PZ R a n c p 20 _ b.rd ω).z ?_;rintro e w1 ⟨⟨k,rfl,G,S⟩,g,f⟩;have d:=b.pick g f;clear b g f;obtain⟨Q,b⟩:∃z,z=w.heap.size+1:=⟨_,rfl⟩;rw[<-b];have f:=Z b;clear b;go_upto_region 3 with fail;go_cut [16] from 11 to 15 (λb u=>∃bb:Bool,b=M0 bb/\u=w1)
 case first =>
  by_cases b:k<16
  ·cases up with
   | true =>
    go_wp2_with fail;go_meet;exact⟨_,rfl,rfl⟩
   | false =>
    go_wp2_with fail;go_meet;exact⟨_,rfl,rfl⟩
  cases up with
  | true =>
   go_wp2_with fail;go_meet;exact⟨_,rfl,rfl⟩
  | false =>
   go_wp2_with fail;go_meet;exact⟨_,rfl,rfl⟩
 case rest =>
 obtain⟨bb,rfl,b⟩:=hcut;rw[b];clear b;go_upto_if 16 with fail;go_cut [] from 17 to 38 (λu=>∃(K:Int) (H:M6) (I:Nat) (b:List Ch) (q:Int) (hi:Nat),(b.length<=20/\vj b 3 100)/\p<=q/\q<=p+610/\EvD w u R a n c q K H I b (-1) hi (.slice none 0 0) [])
 case first =>
  cases bb with
  | true =>
   obtain⟨g,i,j,l⟩:=d.x.row.k4;have r:=d.x.row.A 0;have o:=d.x.row.lt;rw[<-f.l]at g i j l r o;have m:=d.kind 1;rw[<-f.l]at m;go_wp2_with fail;go_meet
   exact⟨_,none,0,[],p+1,_,⟨σ,λx s=>by cases s⟩,ω,ω,m⟩
  | false =>
   by_cases J:k<11
   ·have g:=d.x.row.y 0
    have i:=d.x.row.y 1;have j:=d.x.row.y 2;have l:=d.x.row.y 3;have r:=d.x.row.A 0;have o:=d.x.row.lt;rw[<-f.l]at g i j l r o;have m:=d.kind 2;rw[<-f.l]at m;go_wp2_with fail;clear g i j l r o;rw[f.l]at m⊢;refine(xF R a n c (p+1) _ m.rd ω).z ?_;rintro e D ⟨⟨E,b,rfl,j,⟨v,r⟩,x⟩,⟨A,cM,cN,i⟩,g⟩;obtain⟨y,C,rfl⟩:=ui j;have s:=m.pick i g;have t:=m.batch i g j;clear i g j m d;rw[<-f.l]at t⊢;obtain⟨g,i,j,l⟩:=s.x.row.k4;have m:=s.x.row.A 1;have o:=s.x.row.lt;rw[<-f.l]at g i j l m o;go_wp2_with fail;go_meet;exact⟨2,y,C,b,A,_,⟨r,x⟩,ω,ω,t⟩
   by_cases E:k<14
   ·have g:=d.x.row.y 0
    have i:=d.x.row.y 1;have j:=d.x.row.y 2;have l:=d.x.row.y 3;have r:=d.x.row.A 0;have o:=d.x.row.lt;rw[<-f.l]at g i j l r o;have m:=d.kind 3;rw[<-f.l]at m;go_wp2_with fail;go_meet
    exact⟨_,none,0,[],p+1,_,⟨σ,λx s=>by cases s⟩,ω,ω,m⟩
   by_cases L:k<17
   ·have g:=d.x.row.y 0
    have i:=d.x.row.y 1;have j:=d.x.row.y 2;have l:=d.x.row.y 3;have r:=d.x.row.A 0;have o:=d.x.row.lt;rw[<-f.l]at g i j l r o;have m:=d.kind 4;rw[<-f.l]at m;go_wp2_with fail;go_meet
    exact⟨_,none,0,[],p+1,_,⟨σ,λx s=>by cases s⟩,ω,ω,m⟩
   by_cases M:k<19
   ·have g:=d.x.row.y 0
    have i:=d.x.row.y 1;have j:=d.x.row.y 2;have l:=d.x.row.y 3;have r:=d.x.row.A 0;have o:=d.x.row.lt;rw[<-f.l]at g i j l r o;have m:=d.kind 5;rw[<-f.l]at m;go_wp2_with fail;go_meet
    exact⟨_,none,0,[],p+1,_,⟨σ,λx s=>by cases s⟩,ω,ω,m⟩
   go_wp2_with fail;refine(PZ R a n c (p+1) 4 _ (d.rd.I (RZ _ _)) ω).z ?_;rintro e D ⟨⟨v,rfl,v0,v1⟩,i,g⟩;have s:=(d.I (RZ _ _)).pick i g;have m:=WX (b:=w1.heap.size) (i:=0) g (by have:=d.lt;have:=d.x.s.lR;omega) (v:=.int .i64 1) σ;have y:=WX (b:=w1.heap.size) (i:=1) g (by have:=d.lt;have:=d.x.s.lR;omega) (v:=.int .i64 2) σ;have A:=WX (b:=w1.heap.size) (i:=2) g (by have:=d.lt;have:=d.x.s.lR;omega) (v:=.int .i64 0) σ;have C:=WX (b:=w1.heap.size) (i:=3) g (by have:=d.lt;have:=d.x.s.lR;omega) (v:=.int .i64 6) σ;have hv:v=0\/v=1\/v=2\/v=3:=ω
   clear v0 v1 g i;obtain⟨g,i,j,l⟩:=s.x.row.k4;have r:=s.x.row.A 0;have o:=s.x.row.lt;rw[<-f.l]at g i j l r o
   have t:=λz=>s.kind z
   rw[<-f.l]at t;clear s d;rcases hv with rfl|rfl|rfl|rfl<;>(go_wp2_with fail;go_meet;exact⟨_,none,0,[],p+1+1,_,⟨σ,λx s=>by cases s⟩,ω,ω,t _⟩)
 case rest =>
 obtain⟨K,H,I,b,q,hi,g,q0,q1,i⟩:=hcut;have bU:=Z g;clear g d G S;go_wp2_with fail;refine(PZ R a n c q 4 _ i.rd ω).z ?_;rintro e w3 ⟨⟨v,rfl,v0,v1⟩,j,g⟩;have m:=i.pick j g;clear i j g;go_upto_if 41 with fail;go_cut [] from 42 to 50 (λu=>∃(E A:Int),-1<=E/\E<=14/\q<=A/\A<=q+5/\EvD w u R a n c A K H I b E hi (.slice none 0 0) [])
 case first =>
  by_cases hv:v=0
  ·subst hv
   go_wp2_with fail;refine(PZ R a n c (q+1) 5 _ m.rd ω).z ?_;rintro e D ⟨⟨u,rfl,u0,u1⟩,i,g⟩;have d:=m.pick i g;clear m i g;obtain⟨g,i,j,l⟩:=d.x.row.k4;have y:=d.x.row.A 2;have o:=d.x.row.lt;rw[<-f.l]at g i j l y o;have N:=d.cutTo u;rw[<-f.l]at N;clear d;go_wp2_with fail;clear g i j l y o;refine(PZ R a n c (q+1+1) 4 _ N.rd ω).z ?_;rintro e w5 ⟨⟨x,rfl,x0,M⟩,i,g⟩;have d:=N.pick i g;clear N i g
   by_cases s:x=0
   ·subst s
    go_wp2_with fail;refine(PZ R a n c (q+1+1+1) 14 _ d.rd ω).z ?_;rintro e L ⟨⟨t,rfl,G,J⟩,i,g⟩;have r:=d.pick i g;clear d i g;obtain⟨g,i,j,l⟩:=r.x.row.k4;have y:=r.x.row.A 2;have o:=r.x.row.lt;rw[<-f.l]at g i j l y o;have C:=r.cutTo t;rw[<-f.l]at C;go_wp2_with fail;go_meet;exact⟨t,q+1+1+1+1,ω,ω,ω,ω,C⟩
   have g:(x == 0)=false:=by simp[s]
   go_wp2_with fail;go_meet;exact⟨u,q+1+1+1,ω,ω,ω,ω,d⟩
  have d:(v == 0)=false:=by simp[hv]
  go_wp2_with fail;go_meet;exact⟨-1,q+1,ω,ω,ω,ω,m⟩
 case rest =>
 obtain⟨E,A,cT,cU,cM,cN,d⟩:=hcut;clear m v0 v1;go_wp2_with fail;refine(PZ R a n c A 8 _ d.rd ω).z ?_;rintro e w5 ⟨⟨v,rfl,v0,v1⟩,i,g⟩;have N:=d.pick i g;clear d i g;go_wp2;go_loopw [7] (λd wr=>∃(m C:Int) (y:Nc) (r:List Int) (W:Nb),W=wr/\d=.int .i64 m/\0<=m/\m<=8/\(r.length:Int)<=8-m/\A<=C/\C<=A+1+2*(8-m)/\EvD w W R a n c C K H I b E hi y r) (λd _=>(intOf d).toNat)
 case atStart=>exact⟨v,A+1,_,[],_,rfl,rfl,ω,ω,τ,ω,ω,N⟩
 case round =>
  obtain⟨m,C,y,r,wr,rfl,rfl,dV,dZ,cV,eH,eI,D⟩:=hrel;obtain⟨L,M,rfl⟩:=ui D.x.s.own
  by_cases hm:0<m
  ·have dM:IntKind.i64.wrap (m-1)=m-1:=QQ _ ω ω
   go_upto_region 22 with fail;refine VS (13) (S:=λF=>F.cell? ⟨Q,3,none⟩=some (.slice L r.length M)) κ (by have i:=D.drew.x.row.y 3;rwa [<-f.l]at i) (λaZ=>?_);refine NN 0 (Mv Q 3) rfl aZ (NN 1 (.slice L r.length M) rfl aZ (NN 2 (Mv R 0) rfl aZ (NN 6 (Mv R 0) rfl aZ ?_)));simp only[PS];refine PH 3 rfl (λl d=>?_);refine LW ρ _ _ γ (PZ R a n c (C) 63 _ D.drew.rd ω) ?_;rintro e v3 ⟨⟨u,rfl,u0,u1⟩,j,g⟩;refine⟨_,rfl,?_⟩;have O:=D.drew.pick j g;have dH:IntKind.i64.wrap (1+u)=1+u:=QQ _ ω ω;clear j g;refine d.l _ _ (by have i:=O.x.row.y 3;rwa [<-f.l]at i) (λbH=>?_)
   try simp only[PS]
   refine NN 4 (.int .i64 (1+u)) rfl bH ?_;simp only[PS];refine RT (rs:=[5,7]) κ σ ?_;refine AllReadyT.cons rfl (λl d=>?_) (AllReadyT.cons rfl (λl d=>?_) AllReadyT.nil)
   ·go_simp
    have x:=O.I (RZ v3 (.cells #[.int .i64 0,.int .i64 64,.int .i64 64,.int .i64 (1+u),.int .i64 (-1),.int .i64 65] 3));have J:=MT v3 #[.int .i64 0,.int .i64 64,.int .i64 64,.int .i64 (1+u),.int .i64 (-1),.int .i64 65] 3;have xl:=O.x.s.lR;have x0:=O.lt;obtain⟨X,j⟩:∃z,z=v3.heap.size:=⟨_,rfl⟩;obtain⟨P,g⟩:∃z,z=v3.alloc (.cells #[.int .i64 0,.int .i64 64,.int .i64 64,.int .i64 (1+u),.int .i64 (-1),.int .i64 65] 3):=⟨_,rfl⟩;have cJ:R<X:=ω
    rw[<-j,<-g]at J;rw[<-g]at x;rw[<-g,<-j];clear g j;refine d.l _ _ (by have i:=x.x.row.y 3;rwa [<-f.l]at i) (λcF=>?_)
    try simp only[PS]
    refine PH 7 rfl (λl d=>?_);refine LW ρ _ _ γ (PZ R a n c (C+1) 6 _ x.rd ω) ?_;rintro e s ⟨⟨V,rfl,cO,cP⟩,j,g⟩;refine⟨_,rfl,?_⟩;have F:=x.pick j g;have J:=J.J g (λe=>by injection e with e;omega);obtain⟨t,rfl⟩:∃k:Nat,V=(k:Int):=⟨V.toNat,ω⟩;have t6:t<6:=ω
    have cQ:(t:Int)<6:=ω
    clear j g
    obtain⟨z,hz,bE⟩:∃z:Int,[Value.int .i64 0,.int .i64 64,.int .i64 64,.int .i64 (1+u),.int .i64 (-1),.int .i64 65][t]?=some (.int .i64 z)/\True:=by rcases t with _|_|_|_|_|_|t<;>first|exact⟨_,rfl,trivial⟩|omega
    have cX:=J.cell t _ hz;refine d.l _ _ (by have i:=F.x.row.y 3;rwa [<-f.l]at i) (λaR=>?_)
    try simp only[PS]
    refine NN 8 (Mv X (t:Nat)) rfl aR ?_;simp only[PS];refine PH 9 rfl (λl d=>?_);go_simp;refine d.l _ _ aR (λ_=>?_)
    try simp only[PS]
    refine PH 10 rfl (λl d=>?_);go_simp;have j:=F.I (RZ s (.cells #[.int .i64 z] 3));refine d.l _ _ (by have i:=j.x.row.y 3;rwa [<-f.l]at i) (λcH=>?_)
    try simp only[PS]
    refine PH 11 rfl (λl d=>?_);have bT:=j.x.s.lt;refine SI _ ρ _ _ _ ρ w.heap.size underlying43 HI.l rfl ω (.slice L r.length M) r.length _ ρ j.x.s.own ⟨s.heap.size,0,none⟩ 1 1 [.int .i64 z] ρ rfl (World.news_of_block (AU s _)) (oS _) (by simp;simp at bT;omega) (s.heap.size+1) σ ?_;intro g cap cS S G T aV;have U:=j.fate (H:=s.heap.size+1) S G T σ;have o:=j.x.row.J G (λe=>j.x.xo e.symm);rw[<-f.l]at U o;clear S G T;refine d.l _ _ (o.y 3) (λT=>?_)
    try simp only[PS]
    refine NN 12 (Mv Q 3) rfl T ?_;simp only[PS];refine RT (rs:=[13]) κ σ ?_;refine AllReadyT.last rfl (λl d=>?_);have G:=o.y 3;have S:=o.A 3;have k2:=o.lt;go_simp;refine d.l _ _ trivial (λ_=>?_)
    try simp only[PS]
    refine UY κ ?_ _;go_wp2;exact⟨⟨m-1,C+1+1,_,r++[z],_,rfl,rfl,ω,ω,by rw[AF];simp;omega,ω,ω,U⟩,by simp[intOf];omega⟩
   refine LW ρ _ _ γ (PZ R a n c (C+1) 6 _ O.rd ω) ?_
   rintro e s ⟨⟨V,rfl,cO,cP⟩,j,g⟩;refine⟨_,rfl,?_⟩;have F:=O.pick j g;obtain⟨t,rfl⟩:∃k:Nat,V=(k:Int):=⟨V.toNat,ω⟩;have t6:t<6:=ω
   have cQ:(t:Int)<6:=ω
   clear j g;refine d.l _ _ (by have i:=F.x.row.y 3;rwa [<-f.l]at i) (λcI=>?_)
   try simp only[PS]
   refine PH 5 rfl (λl d=>?_);go_simp;have x:=F.I (RZ s (.cells #[.int .i64 0,.int .i64 64,.int .i64 64,.int .i64 (1+u),.int .i64 (-1),.int .i64 65] 3));have J:=MT s #[.int .i64 0,.int .i64 64,.int .i64 64,.int .i64 (1+u),.int .i64 (-1),.int .i64 65] 3;have xl:=F.x.s.lR;have x0:=F.lt;obtain⟨X,j⟩:∃z,z=s.heap.size:=⟨_,rfl⟩;obtain⟨P,g⟩:∃z,z=s.alloc (.cells #[.int .i64 0,.int .i64 64,.int .i64 64,.int .i64 (1+u),.int .i64 (-1),.int .i64 65] 3):=⟨_,rfl⟩;have cJ:R<X:=ω
   rw[<-j,<-g]at J;rw[<-g]at x;rw[<-g,<-j];clear g j
   obtain⟨z,hz,bE⟩:∃z:Int,[Value.int .i64 0,.int .i64 64,.int .i64 64,.int .i64 (1+u),.int .i64 (-1),.int .i64 65][t]?=some (.int .i64 z)/\True:=by rcases t with _|_|_|_|_|_|t<;>first|exact⟨_,rfl,trivial⟩|omega
   have cX:=J.cell t _ hz;refine d.l _ _ (by have i:=x.x.row.y 3;rwa [<-f.l]at i) (λaS=>?_)
   try simp only[PS]
   refine NN 8 (Mv X (t:Nat)) rfl aS ?_;simp only[PS];refine PH 9 rfl (λl d=>?_);go_simp;refine d.l _ _ aS (λ_=>?_)
   try simp only[PS]
   refine PH 10 rfl (λl d=>?_);go_simp;have j:=x.I (RZ P (.cells #[.int .i64 z] 3));refine d.l _ _ (by have i:=j.x.row.y 3;rwa [<-f.l]at i) (λbW=>?_)
   try simp only[PS]
   refine PH 11 rfl (λl d=>?_);have bT:=j.x.s.lt;refine SI _ ρ _ _ _ ρ w.heap.size underlying43 HI.l rfl ω (.slice L r.length M) r.length _ ρ j.x.s.own ⟨P.heap.size,0,none⟩ 1 1 [.int .i64 z] ρ rfl (World.news_of_block (AU P _)) (oS _) (by simp;simp at bT;omega) (P.heap.size+1) σ ?_;intro g cap cS S G T aV;have U:=j.fate (H:=P.heap.size+1) S G T σ;have o:=j.x.row.J G (λe=>j.x.xo e.symm);rw[<-f.l]at U o;clear S G T;refine d.l _ _ (o.y 3) (λT=>?_)
   try simp only[PS]
   refine NN 12 (Mv Q 3) rfl T ?_;simp only[PS];refine RT (rs:=[13]) κ σ ?_;refine AllReadyT.last rfl (λl d=>?_);have G:=o.y 3;have S:=o.A 3;have k2:=o.lt;go_simp;refine d.l _ _ trivial (λ_=>?_)
   try simp only[PS]
   refine UY κ ?_ _;go_wp2;exact⟨⟨m-1,C+1+1,_,r++[z],_,rfl,rfl,ω,ω,by rw[AF];simp;omega,ω,ω,U⟩,by simp[intOf];omega⟩
  have U:¬0<m:=hm
  obtain⟨g,i,j,l⟩:=D.x.row.k4;have o:=D.x.row.lt;rw[<-f.l]at g i j l o;obtain⟨n0,n1,n2,n3⟩:=D.rb.k4;obtain⟨X,eC,eF,eG⟩:=D.rb.z4;have nl:=D.rb.lt;have V:w.heap.size≠Q:=by rw[f.l];omega
  go_wp2;obtain⟨t,d⟩:∃W,W=(((wr.setCell ⟨w.heap.size,0,none⟩ (.int .i64 K)).setCell ⟨w.heap.size,1,none⟩ (.slice H b.length I)).setCell ⟨w.heap.size,2,none⟩ (.int .i64 E)).setCell ⟨w.heap.size,3,none⟩ (.slice L r.length M):=⟨_,rfl⟩;obtain⟨O,u,F,J,G⟩:=D.fin rfl t d;rw[<-d];clear d;obtain⟨d,P,S,T⟩:=O.k4;refine AJ (v:=OD ⟨K,b,E,r⟩ H I L M) (by simp[results,results24,go_sem,OD,d,P,S,T]) rfl ⟨⟨⟨K,b,E,r⟩,H,I,L,M,rfl,⟨⟨by have:=bU.l.1;show b.length<=1048576;omega,λx s=>by have:=bU.l.2 x s;omega⟩,by show r.length<=1048576;omega⟩,u,F⟩,⟨C,ω,ω,J⟩,G⟩
section
structure DoS(w v:Nb)(FF:Nat->Prop)(cs ev:List Nc)(x:Wo)(q:Wp)(M:Nb->Prop):Prop where
 e:Below w.heap.size w v
 r2:Row v w.heap.size cs
 r3:Row v (w.heap.size+1) ev
 r4:Row v (w.heap.size+1+1) [.int .i64 0,.slice none 0 0,.slice none 0 0,M0 false,.int .i64 0,.int .i64 0,.int .i64 0,.int .i64 0,.int .i64 0,.int .i64 0,.int .i64 0,.int .i64 0,.int .i64 0,.slice none 0 0,.slice none 0 0,.slice none 0 0]
 n:¬FF w.heap.size/\¬FF (w.heap.size+1+1)
 f:WoF x v FF q
 m:DepF v FF M
section
variable {w v v':Nb} {FF:Nat->Prop} {cs ev cs':List Nc} {x y:Wo} {q q':Wp} {M N:Nb->Prop}
theorem DoS.I(h:DoS w v FF cs ev x q M)(b:Below v.heap.size v v'):DoS w v' FF cs ev x q M:=⟨h.e.j (b.z h.e.size),h.r2.I b,h.r3.I b,h.r4.I b,h.n,h.f.I b,h.m.I b⟩
theorem DoS.put(h:DoS w v FF cs ev x q M)(b:v.grownBy v' (some w.heap.size))(d:Row v' w.heap.size cs'):DoS w v' FF cs' ev x q M :=⟨h.e.j (NR b h.e.size (λx e=>by have e:=CE e;omega)),d,h.r3.J b (λe=>by injection e with e;omega),h.r4.J b (λe=>by injection e with e;omega),h.n,h.f.J b (λg e=>by cases e;exact h.n.1),h.m.J b (λg e=>by cases e;exact h.n.1)⟩
theorem DoS.set(h:DoS w v FF cs ev x q M)(i:Nat)(b:i<cs.length)(u:Nc):DoS w (v.setCell ⟨w.heap.size,i,none⟩ u) FF (cs.set i u) ev x q M:=h.put (QC (BY _ _) _ _) (h.r2.set i b u)
theorem DoS.add(h:DoS w v FF cs ev x q M)(k:DepF v FF N):DoS w v FF cs ev x q (λW=>M W/\N W):=⟨h.e,h.r2,h.r3,h.r4,h.n,h.f,h.m.and k⟩
theorem DoS.fin{F:Nat->Prop}(h:DoS w v FF cs ev x q M)(j:WoF y v FF q')(hF:∀b,FF b->F b\/w.heap.size<=b)(d:List Nc)(i:d.length=16)(f:Nb)(e:f=v.setCells (w.heap.size+1+1) 0 d):Row f (w.heap.size+1+1) d/\Below w.heap.size w f/\WoF y f (λb=>F b\/w.heap.size<=b) q':=by
 subst e;have G:=LG v (w.heap.size+1+1) 0 d;exact⟨h.r4.sets d i,h.e.j (NR G h.e.size (λx e=>by have e:=CE e;omega)),(j.J G (λg e=>by cases e;exact h.n.2)).z (λb _ k=>hF b k)⟩
end
theorem Ln{x:Wo}{e:Ev}{D:Dd}(f:¬e.K=5)(i:x.call e=(D,true))(d:D.C=0)(h:¬(2000<(PW x e D).length\/200<(NW x e D).length))(g:RF e D=false):x.doE e={ (x.ran e D).upS D with P:=if e.K=2 then NW x e D else [D.rs] }:=by
 by_cases b:e.K=2
 ·rw[vP f i d h g b,AE b];rfl
 rw[uD f i d h g b,AG b]
end
def zf(W:Nb)(b:Nat)(d:List Nc)(D:Dd)(f g:M6):Prop:=Row W b d/\OwnDn W D.rs D.ops f g
def wW(v w:Nb)(f:List Y)(d:List OpT)(N:Nat)(i h:Nc):Prop:=∃(j g b:Nat),j<=N/\h=.int .i64 (j:Int)/\i=.slice (Mw g 0) (f++ND (d.take j)).length b/\w.ownsRow v.heap.size 9 1 (.slice (Mw g 0) (f++ND (d.take j)).length b) (f++ND (d.take j)).length ((f++ND (d.take j)).map Value.string)/\Below v.heap.size v w
def wX(v w:Nb)(f:Nat->Prop)(b:List (List Pr))(g:Nc):Prop:=∃(d:M6) (pc:Nat),g=.slice d b.length pc/\PstF w f d b/\Below v.heap.size v w
theorem ew(x:Wo)(q:Wp)(e:Ev)(a:M6)(c:Nat)(f:M6)(d:Nat)(F:Nat->Prop)(w:Nb)(h:WoF x w F q)(ho:x.ok)(h2:Chs w a e.b)(h3:Ints w f e.fs)(he:e.le):Calls prog 34 #[MB x q,OD e a c f d] w λr s=>ju w s F r (x.doE e):=by
 have g:=ho.le
 obtain⟨A,i,aW,K,L,cN⟩:∃A:Nat->Prop,Hid (∀b,b<w.heap.size->F b->A b)/\Hid (∀b,w.heap.size+1+1+1<=b->A b)/\Hid (¬A w.heap.size)/\Hid (¬A (w.heap.size+1+1))/\Hid (∀b,A b->F b\/w.heap.size<=b) :=⟨λb=>(F b/\b<w.heap.size)\/w.heap.size+1+1+1<=b,λb j h2=>.inl ⟨h2,j⟩,λb h=>.inr h,λh=>by rcases h with h|h;exact absurd h.2 ω;omega,λh=>by rcases h with h|h;exact absurd h.2 ω;omega,λb h=>by rcases h with h|h;exact .inl h.1;exact .inr ω⟩
 have t:=Z (h.z i);clear h i;have CP:=Z (λy R s (r:WoF y s A R) (hy:y.le 1048576) v=>Ha y R f e.fs d A s r hy v he.f);have i:=Z (λs r v=>yU x q e a c f d s r g v he);have I:=Z h2;have fC:=Z h3;clear h2 h3;obtain⟨⟨D,u⟩,l⟩:∃y,x.call e=y:=⟨_,rfl⟩;obtain⟨C,aP⟩:∃y,Hid (y=x.doE e):=⟨_,Z rfl⟩;rw[<-aP.l];have j:=ho.call e;rw[l]at i j;simp only at i j;have iI:D.ops.length<=1000:=j.2.1;have CF:=Z (λob oe (z:Int) s r v k3=>Dj q.a x.ss q.c q.a' x.ws q.c' ob D.ops oe z s r v k3 ω (λo ho=>by have:=j.2.2 o ho;omega) g.l1 g.l2 g.s1 g.s2);have HD:=Z j;have dL:=Z l;have iF:=g.l5;have iJ:=ho.p.1;have iK:=ho.t.1;have HM:=Z g;have HO:=Z ho;clear j l g ho;obtain⟨i0,g,j,l,m⟩:=XF dw;have HI:=Z (AH g (AH j (AH l m)));clear g j l m;obtain⟨i1,g,j,l,m⟩:=XF mg;have J:=Z (AH g (AH j (AH l m)))
 clear g j l m;unfold LF at CF;unfold MB OD at i⊢;go_enter func34,ntmps34;go_upto_region 1 with fail;generalize g:w.alloc _=v1;obtain⟨V,G,E⟩:=LY g;clear g;generalize g:v1.alloc _=v2;obtain⟨Q,o,l⟩:=LY g;clear g;generalize g:v2.alloc _=v3;obtain⟨j,H,m⟩:=LY g;clear g;rw[G]at l o;rw[o]at m H;have p:=V.j ((Q.j (j.z Q.size)).z V.size);have g:DoS w v3 A (wL x q) [.int .i64 e.K,.slice a e.b.length c,.int .i64 e.cut,.slice f e.fs.length d] x q (λ_=>True):=⟨p,((E.I Q).I j).q,(l.I j).q,m.q,⟨K,L⟩,t.l.I p,LQ (λ_=>trivial)⟩;have l3:w.heap.size+1+1+1<=v3.heap.size:=ω
 clear p V Q j E l m G o H t K L
 by_cases j:e.K=5
 ·have H:C=x.pow e.fs:=by rw[aP.l];unfold Wo.doE;rw[AE j]
  obtain⟨y,m⟩:∃y,Hid (y=x.pow e.fs):=⟨_,Z rfl⟩;have M:=Z (CP.l x q v3 g.f HM.l (fC.l.I g.e));rw[<-m.l]at M H;subst H;unfold MB at M;clear CP i CF HI J HD;have l:(e.K == 5)=true:=by simp[j]
  have t:=g.r3.y 0;have O:=g.r3.y 3;have p:=g.r3.lt;go_upto_region 2 with fail;refine BE ?_;refine AS rfl 36 _ rfl w.heap.size 0 rfl _ _ g.r2.range underlying36 rfl MO ?_;simp only[PS];go_wp2_with fail;clear t O p;refine M.l.z ?_;rintro e v4 ⟨R,rfl,Q,p⟩;replace Q:=Q.z (G:=A) (λb _ k=>k.elim id (λk=>aW.l b ω));replace g:=g.I p;clear p M;unfold MB
  try simp only[PS]
  refine‹∀(a:Act) (w:Nb),wpList _ _ _ _ a w->_› _ _ ?_
  refine BI rfl 36 _ _ rfl (w.heap.size+1+1) 0 (wA C R) rfl rfl (g.r4.there rfl) MO κ ?_
  try simp only[PS]
  obtain⟨V,p⟩:∃y9,y9=v4.setCells (w.heap.size+1+1) 0 (wL C R):=⟨_,rfl⟩;obtain⟨U,T,M⟩:=g.fin (Q) cN.l (wL C R) rfl V p;rw[<-p];clear p g
  try go_wp2
  exact LV 4 36 results34 _ rfl (wL C R) _ U underlying36 rfl MO rfl ⟨R,rfl,M,T⟩
 have l:(e.K == 5)=false:=by simp[j]
 have dM:=Z j;clear j;obtain⟨t,Q,T,O⟩:=g.r3.k4;have p:=g.r3.lt;go_upto_region 3 with fail;refine BE ?_;refine AS rfl 36 _ rfl w.heap.size 0 rfl _ _ g.r2.range underlying36 rfl MO ?_;simp only[PS];go_wp2_with fail;clear t Q T O p l;refine(i.l _ g.f.at (I.l.I g.e)).z ?_;rintro r4 v4 ⟨m,o,ob,oe,rfl,j,own,l,M,p⟩;have t:DepF v4 A (λW=>OwnDn W D.rs D.ops m ob):=NE (ni own l M) (λb r _=>aW.l b ω);have l4:=p.size;replace g:=g.I p;clear own l M p i j I;unfold NZ;go_upto_region 4 with fail;generalize j:v4.alloc _=S;obtain⟨p,E,i⟩:=LY j;clear j;obtain⟨XB,j⟩:∃y,y=v4.heap.size:=⟨_,rfl⟩;rw[<-j]at i⊢;have gQ:w.heap.size+1+1+1<=XB:=ω
 have l:DoS w S A (wL x q) [.int .i64 e.K,.slice a e.b.length c,.int .i64 e.cut,.slice f e.fs.length d] x q (λW=>True/\zf W XB (dJ D.C D.W D.S D.L D.T D.H D.F D.R D.U D.O (.slice m D.rs.length o) (.slice ob D.ops.length oe)) D m ob):=(g.I p).add ((LZ i.q (aW.l _ gQ)).and (t.I p));have l5:XB<S.heap.size:=l.m.q.2.1.lt;clear g t p i E j;generalize Value.tuple _=T0;generalize Value.agg _=A0;generalize Value.agg _=A1;generalize Value.agg _=A2;go_cut [31] from 25 to 30 (λbv wx=>bv=M0 (decide (u=false\/D.C≠0))/\wx=S)
 case first =>
  have t:=l.m.q.2.1.y 0;have p:=l.m.q.2.1.lt
  cases u with
  | false =>
   go_wp2_with fail;go_meet;exact⟨σ,rfl⟩
  | true =>
   by_cases g:D.C=0
   ·have i:(D.C == 0)=true:=by simp[g]
    go_wp2_with fail;go_meet;exact⟨by simp[g],rfl⟩
   have i:(D.C == 0)=false:=by simp[g]
   go_wp2_with fail;go_meet;exact⟨by simp[g],rfl⟩
 case rest =>
 obtain⟨rfl,i⟩:=hcut;rw[i];clear i
 by_cases i:u=false\/D.C≠0
 ·have H:C=x:=by rw[aP.l];exact YR dM.l dL.l i
  subst H;rw[AL i];go_upto_region 5 with fail;refine BE ?_;refine AS rfl 36 _ rfl w.heap.size 0 rfl _ _ l.r2.range underlying36 rfl MO ?_;simp only[PS];refine BI rfl 36 _ _ rfl (w.heap.size+1+1) 0 (wA C q) rfl rfl (l.r4.there rfl) MO κ ?_
  try simp only[PS]
  obtain⟨V,p⟩:∃y9,y9=S.setCells (w.heap.size+1+1) 0 (wL C q):=⟨_,rfl⟩;obtain⟨U,T,M⟩:=l.fin (l.f) cN.l (wL C q) rfl V p;rw[<-p];clear p l
  try go_wp2
  exact LV 4 36 results34 _ rfl (wL C q) _ U underlying36 rfl MO rfl ⟨q,rfl,M,T⟩
 rw[AI i]
 obtain⟨rfl,g⟩:u=true/\D.C=0:=by cases u<;>simp_all
 have HC:=Z g;clear i g;obtain⟨N,HN⟩:∃N,Hid (N=evN e D):=⟨_,Z rfl⟩;obtain⟨CB,bR⟩:∃b,Hid (b=RF e D):=⟨_,Z rfl⟩;have iC:N<=D.ops.length:=by rw[HN.l];exact rh e D
 have g:Hid (CB=true->e.cut=(N:Int)):=Z (λk=>by rw[bR.l]at k;have k:=AV (by unfold RF at k;exact k);rw[HN.l];unfold evN;rw[AE k];omega);have j:Hid (CB=false->N=D.ops.length):=Z (λk=>by rw[bR.l]at k;have k:=JE (by unfold RF at k;exact k);rw[HN.l];unfold evN;rw[AG k]);have E:=l.m.q.2.1.y 11;have p:=l.m.q.2.1.lt;have t:=l.r3.y 2;have el:=l.r3.lt;go_upto_region 7 with fail;go_cut [8] from 36 to 44 (λi wx=>i=M0 CB/\wx=S)
 case first =>
  by_cases r:0<=e.cut
  ·by_cases v:e.cut<=(D.ops.length:Int)
   ·have i:CB=true:=by rw[bR.l];unfold RF;exact AL ⟨r,v⟩
    clear g j;go_wp2;go_meet;exact⟨by rw[i],rfl⟩
   have i:CB=false:=by rw[bR.l];unfold RF;exact AI (λh=>v h.2)
   clear g j;go_wp2;go_meet;exact⟨by rw[i],rfl⟩
  have i:CB=false:=by rw[bR.l];unfold RF;exact AI (λh=>r h.1)
  clear g j;go_wp2;go_meet;exact⟨by rw[i],rfl⟩
 case rest =>
 obtain⟨rfl,i⟩:=hcut;rw[i];clear i;go_upto_if 45 with fail;go_cut [7] from 46 to 47 (λi wx=>i=.int .i64 (N:Int)/\wx=S)
 case first =>
  cases CB with
  | true =>
   have i:=Z (g.l rfl);clear g j;go_wp2;go_meet;exact⟨by rw[i.l],rfl⟩
  | false =>
   have i:=Z (j.l rfl);clear g j;go_wp2;go_meet;exact⟨by rw[i.l],rfl⟩
 case rest =>
 obtain⟨rfl,i⟩:=hcut;rw[i];clear i g j E p t el;have iB:(N:Int)<=1000:=ω
 have p:=l.r2.y 15;have X:=l.r2.lt;go_wp2_with (at_builtin;refine oI rfl _ _ 23 rfl 9 i0 (Mz empty) 1 16 underlying23 HI.l.1 HI.l.2.1 HI.l.2.2.1 HI.l.2.2.2 rfl S.heap.size S.heap.size rfl (DT _ #[] 0 (AA _) σ σ) _ rfl x.ts.length _ (fh (l.f.h5.q.I (WA _ _)) _ _ underlying23 q.ct) ω ω σ ?_;intro g0 eG ws i t g);have j:Below S.heap.size S ws:=(WA _ _).j (g.z σ);clear g t p X;go_loopw [9,10] (λp g wr=>wW S wr x.ts D.ops N p g) (λ_ g _=>N-(intOf g).toNat)
 case atStart=>exact⟨0,g0,eG,AM _,rfl,by simp[ND],by simpa[ND] using i,j⟩
 case round =>
  clear i j;obtain⟨j,g,t,hj,rfl,rfl,i,H⟩:=hrel;have G:=bj (D.ops.take j);rw[AP]at G;have gS:(x.ts++ND (D.ops.take j)).length<=4000:=by rw[AF];omega
  obtain⟨E,p⟩:∃y,Hid (y=x.ts++ND (D.ops.take j)):=⟨_,Z rfl⟩;rw[<-p.l]at i gS⊢;clear G;replace l:=l.I H
  by_cases iG:j<N
  ·have gU:(j:Int)<(N:Int):=ω
   have iD:(0:Int)<=(j:Int):=ω
   have iE:(j:Int)<(D.ops.length:Int):=ω
   have iP:=l.m.q.2.1.y 11;have iQ:=l.m.q.2.1.lt;obtain⟨b1,o1,s0,n1,K,rfl,V,M,O,fZ⟩:=l.m.q.2.2.p.ops.at (k:=j) ω;have G:=qT D.ops j ω;rw[<-fZ.l]at G;have Q:=Z G;clear G l;have L:=Z i;have G:=Z H;have iN:=oY V;clear i H;have iL:IntKind.i64.wrap ((j:Int)+1)=((j+1:Nat):Int):=by rw[jn _ ω ω];omega
   cases s0 with
   | true =>
    go_wp2;exact⟨⟨j+1,g,t,ω,ν,by rw[Q.l];simp[p.l],by rw[Q.l];simpa[p.l] using L.l,G.l⟩,by simp[intOf];omega⟩
   | false =>
    go_wp2_with (at_builtin;refine QY _ rfl _ _ 23 rfl S.heap.size underlying23 HI.l rfl ω _ E.length _ rfl (L.l.alloc _) ⟨wr.heap.size,0,none⟩ 1 1 [Mz K] rfl rfl (World.news_of_block (AU wr _)) (by intro u I;simp at I;subst I;rfl) (by have:=G.l.size;simp;omega) (wr.heap.size+1) σ ?_;intro g9 aI w9 U T bI bY;have fY:=Z U;have X:=Z T;clear U T bI);have T:x.ts++ND (D.ops.take (j+1))=E++[K]:=by rw[Q.l,p.l];simp
    have U:Below S.heap.size S w9:=UC ((G.l).alloc G.l.size _) (L.l.alloc _) X.l (by have:=G.l.size;simp;omega);exact⟨⟨j+1,g9,aI,ω,ν,by rw[T];simp,by rw[T];simpa using fY.l,U⟩,by simp[intOf];omega⟩
  have G:j=N:=ω
  have eC:Hid (E=PW x e D):=Z (by rw[p.l,G,HN.l];rfl);have iH:¬(j:Int)<(N:Int):=ω
  clear G;have gT:=iq i;have iM:XB<wr.heap.size:=l.m.q.2.1.lt;have gW:w.heap.size+1+1+1<=g:=ω
  replace l:=l.add (LZ (TE i) (aW.l _ gW));clear H i p;obtain⟨G,bV⟩:∃y,Hid (y=NW x e D):=⟨_,Z rfl⟩;have gV:G.length<=201:=by rw[bV.l];unfold NW;split<;>(try simp)<;>omega
  have cC:=l.r2.y 14;have X:=l.r2.lt;have e0:=l.r3.y 0;have el:=l.r3.lt;go_upto_if 77 with fail;go_cut [11] from 75 to 85 (λi wx=>wX wr wx A G i)
  case first =>
   clear cC X
   by_cases v:e.K=2
   ·have ep:G=x.P++[D.rs]:=by rw[bV.l];unfold NW;rw[AE v]
    have eX:(e.K == 2)=true:=by simp[v]
    clear v;obtain⟨news,b7,bZ,eT⟩:=K0 (P:=prog) l.f.h4 34 31 underlying34 q.cp;go_upto_region 18 with fail;clear e0 el
    have L:Hid (∀W,Below wr.heap.size wr W->W.cell? ⟨XB,10,none⟩=some (.slice m D.rs.length o)):=λW p=>(l.I p).m.q.1.2.1.y 10
    refine AN (S:=λs=>s.cell? ⟨XB,10,none⟩=some (.slice m D.rs.length o)) κ (L.l _ (AB _ _).drew) (λdN=>?_);refine TY 1 (.slice q.p x.P.length q.cp) rfl dN (TY 3 (Mv XB 1) rfl dN (TY 4 (Mv XB 10) rfl dN (TY 5 (.agg #[.slice m D.rs.length o]) rfl dN ?_)));simp only[PS];refine EF (rs:=[0,6]) κ σ ?_;refine BK rfl (λT s=>?_) (BK rfl (λT s=>?_) DX)
    ·obtain⟨y0,H⟩:∃y,y=wr.drew:=⟨_,rfl⟩
     rw[<-H];have bW:Below wr.heap.size wr y0:=by rw[H];exact(AB _ _).drew
     clear H;go_simp;have cP:=WA y0 (.cells #[] 31);have bC:=MT y0 #[] 31
     have aE:=DT (w:=y0) (e:=31) (size:=1) (base:=wr.heap.size) #[] 0 bW.size (by first|simp|decide|omega) (by first|simp|decide|(unfold maxLen;omega)|omega)
     obtain⟨y1,M⟩:∃y,y=y0.alloc (.cells #[] 31):=⟨_,rfl⟩;obtain⟨b0,I⟩:∃y,y=y0.heap.size:=⟨_,rfl⟩;rw[<-M]at cP bC aE⊢;rw[<-I]at bC aE⊢;have U:=bW.j (cP.z bW.size);clear M;clear I;refine s.l _ _ (L.l _ U) (λgJ=>?_)
     try simp only[PS]
     refine EF (rs:=[2,6]) κ σ ?_;refine BK rfl (λT s=>?_) (BK rfl (λT s=>?_) DX)
     ·refine yk rfl _ _ 34 rfl 31 i1 (.agg #[.slice none 0 0]) 1 24 underlying34 J.l.1 J.l.2.1 J.l.2.2.1 J.l.2.2.2 rfl b0 wr.heap.size rfl aE _ rfl x.P.length news (b7 _ U) ω ω U.size ?_
      intro g3 cF y2 bE fV V;have K:=U.j (V.z U.size);refine s.l _ _ (L.l _ K) (λgK=>?_)
      try simp only[PS]
      refine RD 6 rfl (λT s=>?_);go_simp;have Q:=WA y2 (.cells #[.slice m D.rs.length o] 31);have H:=MT y2 #[.slice m D.rs.length o] 31
      have aG:=DT (w:=y2) (e:=31) (size:=1) (base:=wr.heap.size) #[.slice m D.rs.length o] 1 K.size (by first|simp|decide|omega) (by first|simp|decide|(unfold maxLen;omega)|omega)
      obtain⟨y3,M⟩:∃y,y=y2.alloc (.cells #[.slice m D.rs.length o] 31):=⟨_,rfl⟩;obtain⟨b6,I⟩:∃y,y=y2.heap.size:=⟨_,rfl⟩;rw[<-M]at Q H aG⊢;rw[<-I]at H aG⊢;have O:=K.j (Q.z K.size);clear M;clear I;have bE:=NC bE Q;refine s.l _ _ (L.l _ O) (λgL=>?_)
      try simp only[PS]
      refine RD 7 rfl (λT s=>?_);refine SI _ rfl _ _ 34 rfl wr.heap.size underlying34 J.l rfl ω _ x.P.length _ rfl bE ⟨b6,0,none⟩ 1 1 [.slice m D.rs.length o] rfl rfl (λj u I=>by rw[fg];exact H.cell j u I) (by intro u I;simp at I;subst I;rfl) O.size _ rfl ?_;intro g9 aI y4 o9 aY bI bY;have M:Below wr.heap.size wr y4:=UC O bE aY O.size;refine s.l _ _ (L.l _ M) (λeN=>?_)
      try simp only[PS]
      refine RD 8 rfl (λT s=>?_);go_simp;refine s.l _ _ eN (λ_=>?_)
      try simp only[PS]
      refine DN ?_;clear L;go_wp2_with fail;go_meet;have r9:=TE o9;have fF:=iq o9;refine⟨Mw g9 0,aI,by rw[ep];simp,?_,M⟩;rw[ep];have s9:=M;exact ki (G:=A) bZ (λi hi=>by obtain⟨p',c',r,v⟩:=eT i hi;exact⟨p',c',r,v.I s9⟩) r9 (aW.l _ ω) ((l.m.I s9).map λW k=>k.1.2.2.s.prs)
     go_simp
     have V:=WA y1 (.cells #[.slice m D.rs.length o] 31);have H:=MT y1 #[.slice m D.rs.length o] 31
     have aG:=DT (w:=y1) (e:=31) (size:=1) (base:=wr.heap.size) #[.slice m D.rs.length o] 1 U.size (by first|simp|decide|omega) (by first|simp|decide|(unfold maxLen;omega)|omega)
     obtain⟨y2,M⟩:∃y,y=y1.alloc (.cells #[.slice m D.rs.length o] 31):=⟨_,rfl⟩;obtain⟨b6,I⟩:∃y,y=y1.heap.size:=⟨_,rfl⟩;rw[<-M]at V H aG⊢;rw[<-I]at H aG⊢;have K:=U.j (V.z U.size);clear M;clear I;have aE:=NC aE V;refine s.l _ _ (L.l _ K) (λgM=>?_)
     try simp only[PS]
     refine RD 2 rfl (λT s=>?_);refine yk rfl _ _ 34 rfl 31 i1 (.agg #[.slice none 0 0]) 1 24 underlying34 J.l.1 J.l.2.1 J.l.2.2.1 J.l.2.2.2 rfl b0 wr.heap.size rfl aE _ rfl x.P.length news (b7 _ K) ω ω K.size ?_;intro g3 cF y3 bE fV Q;have O:=K.j (Q.z K.size);have H:=H.I Q;refine s.l _ _ (L.l _ O) (λgN=>?_)
     try simp only[PS]
     refine RD 7 rfl (λT s=>?_);refine SI _ rfl _ _ 34 rfl wr.heap.size underlying34 J.l rfl ω _ x.P.length _ rfl bE ⟨b6,0,none⟩ 1 1 [.slice m D.rs.length o] rfl rfl (λj u I=>by rw[fg];exact H.cell j u I) (by intro u I;simp at I;subst I;rfl) O.size _ rfl ?_;intro g9 aI y4 o9 aY bI bY;have M:Below wr.heap.size wr y4:=UC O bE aY O.size;refine s.l _ _ (L.l _ M) (λeO=>?_)
     try simp only[PS]
     refine RD 8 rfl (λT s=>?_);go_simp;refine s.l _ _ eO (λ_=>?_)
     try simp only[PS]
     refine DN ?_;clear L;go_wp2_with fail;go_meet;have r9:=TE o9;have fF:=iq o9;refine⟨Mw g9 0,aI,by rw[ep];simp,?_,M⟩;rw[ep];have s9:=M;exact ki (G:=A) bZ (λi hi=>by obtain⟨p',c',r,v⟩:=eT i hi;exact⟨p',c',r,v.I s9⟩) r9 (aW.l _ ω) ((l.m.I s9).map λW k=>k.1.2.2.s.prs)
    obtain⟨y0,H⟩:∃y,y=wr.drew:=⟨_,rfl⟩
    rw[<-H];have bW:Below wr.heap.size wr y0:=by rw[H];exact(AB _ _).drew
    clear H;go_simp;have cP:=WA y0 (.cells #[.slice m D.rs.length o] 31);have H:=MT y0 #[.slice m D.rs.length o] 31
    have aG:=DT (w:=y0) (e:=31) (size:=1) (base:=wr.heap.size) #[.slice m D.rs.length o] 1 bW.size (by first|simp|decide|omega) (by first|simp|decide|(unfold maxLen;omega)|omega)
    obtain⟨y1,M⟩:∃y,y=y0.alloc (.cells #[.slice m D.rs.length o] 31):=⟨_,rfl⟩;obtain⟨b6,I⟩:∃y,y=y0.heap.size:=⟨_,rfl⟩;rw[<-M]at cP H aG⊢;rw[<-I]at H aG⊢;have U:=bW.j (cP.z bW.size);clear M;clear I;refine s.l _ _ (L.l _ U) (λfO=>?_)
    try simp only[PS]
    refine RD 0 rfl (λT s=>?_);go_simp;have V:=WA y1 (.cells #[] 31);have bC:=MT y1 #[] 31
    have aE:=DT (w:=y1) (e:=31) (size:=1) (base:=wr.heap.size) #[] 0 U.size (by first|simp|decide|omega) (by first|simp|decide|(unfold maxLen;omega)|omega)
    obtain⟨y2,M⟩:∃y,y=y1.alloc (.cells #[] 31):=⟨_,rfl⟩;obtain⟨b0,I⟩:∃y,y=y1.heap.size:=⟨_,rfl⟩;rw[<-M]at V bC aE⊢;rw[<-I]at bC aE⊢;have K:=U.j (V.z U.size);clear M;clear I;have H:=H.I V;refine s.l _ _ (L.l _ K) (λfQ=>?_)
    try simp only[PS]
    refine RD 2 rfl (λT s=>?_);refine yk rfl _ _ 34 rfl 31 i1 (.agg #[.slice none 0 0]) 1 24 underlying34 J.l.1 J.l.2.1 J.l.2.2.1 J.l.2.2.2 rfl b0 wr.heap.size rfl aE _ rfl x.P.length news (b7 _ K) ω ω K.size ?_;intro g3 cF y3 bE fV Q;have O:=K.j (Q.z K.size);have H:=H.I Q;refine s.l _ _ (L.l _ O) (λfS=>?_)
    try simp only[PS]
    refine RD 7 rfl (λT s=>?_);refine SI _ rfl _ _ 34 rfl wr.heap.size underlying34 J.l rfl ω _ x.P.length _ rfl bE ⟨b6,0,none⟩ 1 1 [.slice m D.rs.length o] rfl rfl (λj u I=>by rw[fg];exact H.cell j u I) (by intro u I;simp at I;subst I;rfl) O.size _ rfl ?_;intro g9 aI y4 o9 aY bI bY;have M:Below wr.heap.size wr y4:=UC O bE aY O.size;refine s.l _ _ (L.l _ M) (λcO=>?_)
    try simp only[PS]
    refine RD 8 rfl (λT s=>?_);go_simp;refine s.l _ _ cO (λ_=>?_)
    try simp only[PS]
    refine DN ?_;clear L;go_wp2_with fail;go_meet;have r9:=TE o9;have fF:=iq o9;refine⟨Mw g9 0,aI,by rw[ep];simp,?_,M⟩;rw[ep];have s9:=M;exact ki (G:=A) bZ (λi hi=>by obtain⟨p',c',r,v⟩:=eT i hi;exact⟨p',c',r,v.I s9⟩) r9 (aW.l _ ω) ((l.m.I s9).map λW k=>k.1.2.2.s.prs)
   have ep:G=x.P:=by rw[bV.l];unfold NW;rw[AG v]
   have eX:(e.K == 2)=false:=by simp[v]
   go_wp2_with fail;go_meet;rw[ep];exact⟨q.p,q.cp,rfl,l.f.h4,AB _ _⟩
  case rest =>
  clear cC X e0 el;obtain⟨pa,pc,rfl,I,p⟩:=hcut
  rename World=>vp
  replace l:=l.I p;clear p;go_upto_region 19 with fail;go_cut [93] from 86 to 92 (λbv wx=>bv=M0 (decide (2000<E.length\/200<G.length))/\wx=vp)
  case first =>
   by_cases s:2000<E.length
   ·have i:(2000:Int)<(E.length:Int):=ω
    go_wp2_with fail;go_meet;exact⟨by rw[AL (.inl s)],rfl⟩
   have i:¬((2000:Int)<(E.length:Int)):=ω
   by_cases K:200<G.length
   ·have p:(200:Int)<(G.length:Int):=ω
    go_wp2_with fail;go_meet;exact⟨by rw[AL (.inr K)],rfl⟩
   have p:¬((200:Int)<(G.length:Int)):=ω
   go_wp2_with fail;go_meet;exact⟨by rw[AI ω],rfl⟩
  case rest =>
  obtain⟨rfl,i⟩:=hcut;rw[i];clear i
  by_cases i:2000<E.length\/200<G.length
  ·have H:C=x:=by rw[aP.l];exact un dM.l dL.l HC.l (by rw[<-eC.l,<-bV.l];exact i)
   subst H;rw[AL i];go_upto_region 20 with fail;refine BE ?_;refine AS rfl 36 _ rfl w.heap.size 0 rfl _ _ l.r2.range underlying36 rfl MO ?_;simp only[PS];refine BI rfl 36 _ _ rfl (w.heap.size+1+1) 0 (wA C q) rfl rfl (l.r4.there rfl) MO κ ?_
   try simp only[PS]
   obtain⟨V,p⟩:∃y9,y9=vp.setCells (w.heap.size+1+1) 0 (wL C q):=⟨_,rfl⟩;obtain⟨U,T,M⟩:=l.fin (l.f) cN.l (wL C q) rfl V p;rw[<-p];clear p l
   try go_wp2
   exact LV 4 36 results34 _ rfl (wL C q) _ U underlying36 rfl MO rfl ⟨q,rfl,M,T⟩
  rw[AI i];have dR:Hid (¬(2000<(PW x e D).length\/200<(NW x e D).length)):=Z (by rw[<-eC.l,<-bV.l];exact i);have gD:=Z (HO.l.ran e (d:=D) HD.l (by have:=dR.l;omega));clear i;obtain⟨i,s⟩:∃y,Hid (y=OQ x.ss x.ws D.ops (N:Int)):=⟨_,Z rfl⟩;have fE:Hid (x.ran e D={ x with ss:=i.1,ws:=i.2,P:=G,ts:=E }):=Z (by rw[s.l,bV.l,eC.l,HN.l];rfl);have p:=CF.l ob oe (N:Int);rw[<-s.l]at p;have V:=Z p;clear p CF s;have M:=l.r2.y 1;have O:=l.r2.y 2;have cC:=l.r2.y 14;have p:=l.r2.y 15;have T:=l.r2.A 1;have U:=l.r2.A 2;have Q:=l.r2.A 14;have s:=l.r2.A 15;have X:=l.r2.lt;have H:=l.m.q.1.2.1.y 11;have xl:=l.m.q.1.2.1.lt;have iO:XB≠w.heap.size:=ω
  go_wp2_with fail;clear M T O U cC Q p s X;clear H xl;have H:=(l.set 15 σ (.slice (Mw g 0) E.length t)).set 14 σ (.slice pa G.length pc);have s:=(I.J (QC (BY vp (some w.heap.size)) 15 (.slice (Mw g 0) E.length t)) (λg e=>by cases e;exact l.n.1)).J (QC (BY _ (some w.heap.size)) 14 (.slice pa G.length pc)) (λg e=>by cases e;exact l.n.1);generalize p:World.setCell (World.setCell _ _ _) _ _=v6 at H s⊢;clear p l I;refine(V.l _ H.f.h1.q H.f.h2.q H.m.q.1.2.2.p.ops).z ?_;rintro r7 v7 ⟨I,r,K,L,rfl,O,l,M,p⟩;have U:=H.r4.lt
  have Q:DepF v7 A (λW=>Strs W I i.1):=(NE (LS (lo:=v6.heap.size) O.s VE l) (λb k _=>aW.l b ω)).map λW k=>k.strs
  have T:DepF v7 A (λW=>Wrs W K i.2):=(NE (LS (lo:=v6.heap.size) O.p ac M) (λb k _=>aW.l b ω)).map λW k=>k.wrs
  replace H:=(H.I p).add (Q.and T);replace s:=s.I p;clear O l M p Q T V U;have M:=H.r2.y 1;have O:=H.r2.y 2;have T:=H.r2.A 1;have U:=H.r2.A 2;have X:=H.r2.lt;go_upto_region 24 with fail;clear M T O U X;have l:=(H.set 1 σ (.slice I i.1.length r)).set 2 σ (.slice K i.2.length L);replace s:=(s.J (QC (BY v7 (some w.heap.size)) 1 (.slice I i.1.length r)) (λg e=>by cases e;exact H.n.1)).J (QC (BY _ (some w.heap.size)) 2 (.slice K i.2.length L)) (λg e=>by cases e;exact H.n.1);generalize p:World.setCell (World.setCell _ _ _) _ _=v8 at l s⊢;clear p H;have X:=l.m
  cases CB with
  | true =>
   have H:C=(x.ran e D).pow e.fs:=by rw[aP.l];exact xa dM.l dL.l HC.l dR.l bR.l.symm
   have p:=gD.l.le;rw[fE.l]at H p;have M:=Z (CP.l { x with ss:=i.1,ws:=i.2,P:=G,ts:=E } ⟨I,r,K,L,q.s,q.cs,pa,pc,Mw g 0,t⟩ v8 ⟨X.map λW k=>k.2.1,X.map λW k=>k.2.2,l.f.h3,s,X.map λW k=>k.1.2.strs⟩ p (fC.l.I l.e));rw[<-H]at M;unfold MB at M;clear H p X s;have O:=l.r3.y 3;have p:=l.r3.lt;go_upto_region 25 with fail;refine BE ?_;refine AS rfl 36 _ rfl w.heap.size 0 rfl _ _ l.r2.range underlying36 rfl MO ?_;simp only[PS];go_wp2_with fail;clear O p;refine M.l.z ?_;rintro r9 v9 ⟨R,rfl,Q,p⟩;have H:=l.r4.lt;replace Q:=Q.z (G:=A) (λb _ k=>k.elim id (λk=>aW.l b ω));replace l:=l.I p;clear p M;unfold MB
   try simp only[PS]
   refine‹∀(a:Act) (w:Nb),wpList _ _ _ _ a w->_› _ _ ?_
   refine BI rfl 36 _ _ rfl (w.heap.size+1+1) 0 (wA C R) rfl rfl (l.r4.there rfl) MO κ ?_
   try simp only[PS]
   obtain⟨V,p⟩:∃y9,y9=v9.setCells (w.heap.size+1+1) 0 (wL C R):=⟨_,rfl⟩;obtain⟨U,T,M⟩:=l.fin (Q) cN.l (wL C R) rfl V p;rw[<-p];clear p l
   try go_wp2
   exact LV 4 36 results34 _ rfl (wL C R) _ U underlying36 rfl MO rfl ⟨R,rfl,M,T⟩
  | false =>
   obtain⟨O,dV⟩:∃y:List (List Pr),Hid (y=if e.K=2 then G else [D.rs]):=⟨_,Z rfl⟩;have H:C={ (x.ran e D).upS D with P:=O }:=by rw[aP.l,dV.l,bV.l];exact Ln dM.l dL.l HC.l dR.l bR.l.symm
   rw[fE.l]at H;have ER:=Z H;clear H X;go_upto_region 26 with fail;refine BE ?_;refine MS rfl _ _ _ rfl (Mv XB 1) (by have xl:=l.m.q.1.1.2.1.lt;go_simp) ?_;simp only[PS];refine AS rfl 33 _ rfl XB 1 rfl (sJ D.W D.S D.L D.T D.H D.F D.R D.U D.O (.slice m D.rs.length o)) _ (Row.rangeMid (pre:=[.int .i64 D.C]) (cs:=(sJ D.W D.S D.L D.T D.H D.F D.R D.U D.O (.slice m D.rs.length o))) (post:=[.slice ob D.ops.length oe]) l.m.q.1.1.2.1) underlying33 rfl aw ?_;simp only[PS];refine MS rfl _ _ _ rfl (Mv w.heap.size 4) (by have X:=l.r2.lt;go_simp) ?_;simp only[PS];refine BI rfl 33 _ _ rfl w.heap.size 4 (sK D.W D.S D.L D.T D.H D.F D.R D.U D.O (.slice m D.rs.length o)) rfl rfl (Row.thereMid (pre:=[.int .i64 x.w,.slice I i.1.length r,.slice K i.2.length L,M0 x.up]) (cs:=(sJ x.W x.S x.L x.T x.H x.F x.R x.U x.O (.slice q.s x.rs.length q.cs))) (post:=[.slice pa G.length pc,.slice (Mw g 0) E.length t]) l.r2 rfl) aw κ ?_
   try simp only[PS]
   have b:=l.put (LG v8 w.heap.size 4 (sJ D.W D.S D.L D.T D.H D.F D.R D.U D.O (.slice m D.rs.length o))) (Row.setsMid (pre:=[.int .i64 x.w,.slice I i.1.length r,.slice K i.2.length L,M0 x.up]) (cs:=(sJ x.W x.S x.L x.T x.H x.F x.R x.U x.O (.slice q.s x.rs.length q.cs))) (post:=[.slice pa G.length pc,.slice (Mw g 0) E.length t]) l.r2 (sJ D.W D.S D.L D.T D.H D.F D.R D.U D.O (.slice m D.rs.length o)) rfl);replace s:=s.J (LG v8 w.heap.size 4 (sJ D.W D.S D.L D.T D.H D.F D.R D.U D.O (.slice m D.rs.length o))) (λg e=>by cases e;exact l.n.1);generalize p:v8.setCells _ _ _=v9 at b s⊢;clear p l;have l:=b.r2.y 3;have p:=b.r2.A 3;have X:=b.r2.lt;have e0:=b.r3.y 0;have el:=b.r3.lt;go_upto_if 117 with fail;clear l p X;have l:=b.set 3 σ (M0 true);replace s:=s.J (QC (BY v9 (some w.heap.size)) 3 (M0 true)) (λg e=>by cases e;exact b.n.1)
   generalize p:World.setCell _ _ _=va at l s⊢;clear p b;go_cut [] from 115 to 122 (λwx=>∃(H:M6) (pd:Nat),DoS w wx A [.int .i64 x.w,.slice I i.1.length r,.slice K i.2.length L,M0 true,.int .i64 D.W,.int .i64 D.S,.int .i64 D.L,.int .i64 D.T,.int .i64 D.H,.int .i64 D.F,.int .i64 D.R,.int .i64 D.U,.int .i64 D.O,.slice m D.rs.length o,.slice H O.length pd,.slice (Mw g 0) E.length t] [.int .i64 e.K,.slice a e.b.length c,.int .i64 e.cut,.slice f e.fs.length d] x q (λW=>(((True/\zf W XB (dJ D.C D.W D.S D.L D.T D.H D.F D.R D.U D.O (.slice m D.rs.length o) (.slice ob D.ops.length oe)) D m ob)/\Row W g (E.map Value.string))/\(Strs W I i.1/\Wrs W K i.2)))/\PstF wx A H O)
   case first =>
    by_cases v:e.K=2
    ·have ep:O=G:=by rw[dV.l,AE v]
     have eX:(e.K == 2)=true:=by simp[v]
     clear v;go_wp2_with fail;go_meet;rw[ep];exact⟨pa,pc,l,s⟩
    have ep:O=[D.rs]:=by rw[dV.l,AG v]
    have eX:(e.K == 2)=false:=by simp[v]
    clear v;have cC:=l.r2.y 14;have Q:=l.r2.A 14;have X:=l.r2.lt;have b:=l.m.q.1.1.2.1.y 10;have xl:=l.m.q.1.1.2.1.lt;go_wp2_with fail;clear cC Q X;clear b xl;go_meet;rw[ep];have U:w.heap.size+1+1+1<=va.heap.size:=by have:=l.r4.lt;omega
    have b:=(l.set 14 σ (.slice (Mw va.heap.size 0) 1 1));have T:(va.setCell ⟨w.heap.size,14,none⟩ (.slice (Mw va.heap.size 0) 1 1)).heap.size=va.heap.size:=BH _ _ _;generalize p:va.setCell _ _=Q at b T⊢;clear p;have p:=WA Q (.cells #[.slice m D.rs.length o] 31);have M:=MT Q #[.slice m D.rs.length o] 31;rw[T]at M;exact⟨Mw va.heap.size 0,1,b.I p,qJ M (aW.l _ U) ((b.m.I p).map λW k=>k.1.1.2.2.s.prs)⟩
   case rest =>
   clear l s e0 el;obtain⟨H,pd,b,s⟩:=hcut
   rename World=>l
   have Q:WoF C l A ⟨I,r,K,L,m,o,H,pd,Mw g 0,t⟩:=by rw[ER.l];exact⟨b.m.map λW k=>k.2.1,b.m.map λW k=>k.2.2,b.m.map λW k=>k.1.1.2.2.s.prs,s,b.m.map λW k=>k.1.2.strs⟩
   go_upto_region 30 with fail;refine BE ?_;refine AS rfl 36 _ rfl w.heap.size 0 rfl _ _ b.r2.range underlying36 rfl MO ?_;simp only[PS];refine BI rfl 36 _ _ rfl (w.heap.size+1+1) 0 #[.int .i64 x.w,.slice I i.1.length r,.slice K i.2.length L,M0 true,.int .i64 D.W,.int .i64 D.S,.int .i64 D.L,.int .i64 D.T,.int .i64 D.H,.int .i64 D.F,.int .i64 D.R,.int .i64 D.U,.int .i64 D.O,.slice m D.rs.length o,.slice H O.length pd,.slice (Mw g 0) E.length t] rfl rfl (b.r4.there rfl) MO κ ?_
   try simp only[PS]
   obtain⟨V,p⟩:∃y9,y9=l.setCells (w.heap.size+1+1) 0 [.int .i64 x.w,.slice I i.1.length r,.slice K i.2.length L,M0 true,.int .i64 D.W,.int .i64 D.S,.int .i64 D.L,.int .i64 D.T,.int .i64 D.H,.int .i64 D.F,.int .i64 D.R,.int .i64 D.U,.int .i64 D.O,.slice m D.rs.length o,.slice H O.length pd,.slice (Mw g 0) E.length t]:=⟨_,rfl⟩;obtain⟨U,T,M⟩:=b.fin (Q) cN.l [.int .i64 x.w,.slice I i.1.length r,.slice K i.2.length L,M0 true,.int .i64 D.W,.int .i64 D.S,.int .i64 D.L,.int .i64 D.T,.int .i64 D.H,.int .i64 D.F,.int .i64 D.R,.int .i64 D.U,.int .i64 D.O,.slice m D.rs.length o,.slice H O.length pd,.slice (Mw g 0) E.length t] rfl V p;rw[<-p];clear p b
   try go_wp2
   refine LV 4 36 results34 _ rfl [.int .i64 x.w,.slice I i.1.length r,.slice K i.2.length L,M0 true,.int .i64 D.W,.int .i64 D.S,.int .i64 D.L,.int .i64 D.T,.int .i64 D.H,.int .i64 D.F,.int .i64 D.R,.int .i64 D.U,.int .i64 D.O,.slice m D.rs.length o,.slice H O.length pd,.slice (Mw g 0) E.length t] _ U underlying36 rfl MO rfl ⟨⟨I,r,K,L,m,o,H,pd,Mw g 0,t⟩,?_,M,T⟩;rw[ER.l];rfl
end
section
open Tryz
open Go.RowKit nw
theorem wn{n wd:Int}(a:8<=n/\n<=200):(LN n wd).good n.toNat:=by
 have b:(newSS n).length=n.toNat:=by unfold newSS;rw[AE a,DI]
 refine⟨pY a,?_,b,λk=>by cases k⟩
 show LE (newSS n) []=true;unfold newSS;rw[AE a];exact MQ (by rw[DI];simp;omega) (λs c=>by rw[List.eq_of_mem_replicate c];decide) (λx d=>by cases d)
def Da(w a:Nb)(r:Ending):Prop:=∃(x:Wo) (q:Wp) (N:Nat),r=M3 (MB x q)/\x.good N/\(8<=N/\N<=40)/\(1<=x.w/\x.w<=8)/\WoF x a (λb=>w.heap.size<=b) q
theorem cd(x:Wo)(e:Ev):(x.doE e).w=x.w:=by
 unfold Wo.doE
 repeat' split
 all_goals rfl
def YU:Ev:=⟨1,[],-1,[]⟩
theorem Hy:YU.le:=⟨⟨by simp[YU],λx a=>by cases a⟩,by simp[YU]⟩
theorem sF(x:Wo)(q:Wp)(F:Nat->Prop)(w:Nb)(h:WoF x w F q)(a:x.ok):Calls prog 34 #[MB x q,.agg #[.int .i64 1,.slice none 0 0,.int .i64 (-1),.slice none 0 0]] w λr b=>ju w b F r (x.doE YU) :=ew x q YU none 0 none 0 F w h a (.inl rfl) (.inl rfl) Hy
end
section
open Tryz
open Go.RowKit nw
theorem En(o:Option (Int×Int×Int×Y)):∃k l m p a,TP o=.tuple #[OE k l m p,M0 a]:=by
 rcases o with _|⟨k,l,m,p⟩
 ·exact⟨_,_,_,_,_,rfl⟩
 exact⟨_,_,_,_,_,rfl⟩
theorem Jk{x:Wo}(h:x.up=true\/x.S<=0)(e:Ev):(x.doE e).up=true\/(x.doE e).S<=0:=by
 unfold Wo.doE
 repeat' split
 all_goals first|exact h|exact .inl rfl|exact .inr (Int.le_refl 0)
structure FgS(w wx:Nb)(R:Nat)(a:M6)(n c:Nat)(p:Int)(B:Nat)(x:Wo)(q:Wp):Prop where
 rd:Rdr wx R a n c p
 gr:w.grownBy wx (some R)
 lR:R<w.heap.size
 ga:∀g o,a=Mw g o->0<n->g<w.heap.size
 r2:Row wx w.heap.size [.int .i64 0,.slice none 0 0,.slice none 0 0,M0 false,.int .i64 0,.int .i64 0,.int .i64 0,.int .i64 0,.int .i64 0,.int .i64 0,.int .i64 0,.int .i64 0,.int .i64 0,.slice none 0 0,.slice none 0 0,.slice none 0 0]
 r3:Row wx B (wL x q)
 lB:w.heap.size+1<=B
 wo:WoF x wx (λb=>w.heap.size+1<=b/\b≠B) q
section
variable {w wx wy:Nb} {R:Nat} {a:M6} {n c:Nat} {p p':Int} {B:Nat} {x:Wo} {q:Wp}
theorem FgS.I(h:FgS w wx R a n c p B x q)(b:Below wx.heap.size wx wy):FgS w wy R a n c p B x q :=⟨h.rd.I b,QG h.gr (UA _ b),h.lR,h.ga,h.r2.I b,h.r3.I b,h.lB,h.wo.I b⟩
theorem FgS.pick(h:FgS w wx R a n c p B x q)(d:Rdr wy R a n c p')(b:wx.grownBy wy (some R)):FgS w wy R a n c p' B x q:=by
 have f:=h.lR;have i:=h.lB;exact⟨d,QG h.gr b,h.lR,h.ga,h.r2.J b (λe=>by injection e with e;omega),h.r3.J b (λe=>by injection e with e;omega),h.lB,h.wo.J b (λg e k=>by injection e with e;have:=k.1;omega)⟩
theorem FgS.fin(h:FgS w wx R a n c p B x q)(d:List Nc)(o:d.length=16){y:Wo}{m:Wp}(s:WoF y wx (λb=>w.heap.size+1<=b) m):Row (wx.setCells w.heap.size 0 d) w.heap.size d/\Rdr (wx.setCells w.heap.size 0 d) R a n c p/\w.grownBy (wx.setCells w.heap.size 0 d) (some R)/\WoF y (wx.setCells w.heap.size 0 d) (λb=>w.heap.size<=b) m:=by
 have G:=LG wx w.heap.size 0 d;have f:Below w.heap.size wx (wx.setCells w.heap.size 0 d):=NR G h.gr.size (λg e=>by cases e;exact AA _);have j:=h.gr;exact⟨h.r2.sets d o,h.rd.keep (N:=w.heap.size) h.lR h.ga f,⟨f.os.j j.os,f.tape.j j.tape,f.output.j j.output,AK j.size f.size,λi l r=>(f.block i l).j (j.block i l r)⟩,(s.J G (λg e k=>by cases e;omega)).z (λb _ k=>ω)⟩
theorem FgS.put(h:FgS w wx R a n c p B x q){y:Wo}{d:Wp}(m:WoF y wx (λb=>w.heap.size+1<=b/\b≠B) d):FgS w (wx.setCells B 0 (wL y d)) R a n c p B y d:=by
 have o:=h.lB;have G:=LG wx B 0 (wL y d);have b:Below w.heap.size wx (wx.setCells B 0 (wL y d)):=NR G h.gr.size (λg e=>by cases e;omega);have f:=h.gr;exact⟨h.rd.keep (N:=w.heap.size) h.lR h.ga b,⟨b.os.j f.os,b.tape.j f.tape,b.output.j f.output,AK f.size b.size,λi j l=>(b.block i j).j (f.block i j l)⟩,h.lR,h.ga,h.r2.J G (λe=>by injection e with e;omega),h.r3.sets (wL y d) rfl,h.lB,m.J G (λg e k=>by cases e;exact k.2 rfl)⟩
def xA(w:Nb)(R:Nat)(a:M6)(n c:Nat)(p:Int)(B:Nat)(x:Wo)(q:Wp)(b:Nc)(wr:Nb):Prop:=∃i:Nat,i<=60/\b=.int .i64 (i:Int)/\FgS w wr R a n c (p+i) B x q
end
structure FgJ(w wx:Nb)(R:Nat)(a:M6)(n c:Nat)(p:Int)(B:Nat)(x:Wo)(q:Wp)(X:Nat)(D:Dd)(oa:M6)(oc:Nat)(ob:M6)(oe:Nat)(bb:Nat)(b:List Ch):Prop where
 s:FgS w wx R a n c p B x q
 r:Row wx X (dJ D.C D.W D.S D.L D.T D.H D.F D.R D.U D.O (.slice oa D.rs.length oc) (.slice ob D.ops.length oe))
 o:Ops wx ob D.ops
 b:Chs wx (Mw bb 0) b
theorem FgJ.I{w e l:Nb}{R:Nat}{a:M6}{n c:Nat}{p:Int}{B:Nat}{x:Wo}{q:Wp}{X:Nat}{D:Dd}{g:M6}{j:Nat}{i:M6}{k:Nat}{f:Nat}{b:List Ch}(h:FgJ w e R a n c p B x q X D g j i k f b)(d:Below e.heap.size e l):FgJ w l R a n c p B x q X D g j i k f b :=⟨h.s.I d,h.r.I d,h.o.I d,h.b.I d⟩
def wZ(w:Nb)(R:Nat)(a:M6)(n c:Nat)(p:Int)(B:Nat)(x:Wo)(q:Wp)(X:Nat)(D:Dd)(f:M6)(h:Nat)(g:M6)(i:Nat)(d:Nat)(b:List Ch)(e:Nc)(wr:Nb):Prop:=∃k:Nat,10<=k/\k<=60/\e=.int .i64 (k:Int)/\FgJ w wr R a n c p B x q X D f h g i d b
