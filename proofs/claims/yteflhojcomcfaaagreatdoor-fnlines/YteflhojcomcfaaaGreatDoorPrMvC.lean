import Derived.Test.YteflhojcomcfaaaGreatDoorPrMvS
set_option maxHeartbeats 16000000
namespace Go.Proofs.YteflhojcomcfaaaGreatDoor
open Tryz
open Go.RowKit
set_option linter.all false
set_option maxRecDepth 8000
theorem De(W S L T H F R U O:Int)(a:Q5)(f:List Pr)(c:Nat)(w:Q9)(d:Prs w a f)(s:f.length<=1048576)(t:∀b∈f,b.1.size<=1048576/\b.2.size<=1048576):Calls prog 120 #[NA W S L T H F R U O a f.length c] w λb i=>VZ w i b (QL W S L T H F R U O f):=by
 have j:=LE (λi o=>sk W S L T H F R U O a f c i o s t);have p:=LE d;clear d;obtain⟨D,m⟩:=x (QL W S L T H F R U O f);rw[<-m.j];unfold NA at j⊢;go_enter func120,ntmps120;go_upto_region 1 with fail;generalize e:w.alloc _=E;obtain⟨k,q,r⟩:=LP e;clear e;generalize e:E.alloc _=u;obtain⟨n,v,g⟩:=LP e;clear e;rw[q]at g;have e:StB w u (sJ W S L T H F R U O (Y a f.length c)) (λ_=>True):=⟨k.E (n.J k.size),(r.I n).q,g.q,XP (λ_=>trivial)⟩;have y:w.heap.size+1<u.heap.size:=g.q.lt;clear k n r g q v;refine AX ?_;refine BE z 44 _ z w.heap.size 0 z _ _ e.r1.range underlying44 z QD ?_;simp only[PS];go_wp2_with fail;refine(j.j _ (p.j.I e.e)).J ?_;rintro b K ⟨rfl,g⟩;replace e:=e.I g;clear g y j
 cases hok:OW W S L T H F R U O f with
 | false =>
  obtain rfl:D=LO 1:=by rw[m.j];unfold QL;rw[A (by rw[hok];simp)]
  go_upto_region 2 with fail;refine e.noR 1 _ _ z l z z z z (λy j g=>?_)
  try simp only[PS]
  clear e
  try go_wp2
  refine VY 2 results120 _ ?_ j ?_ g.j<;>rfl
 | true =>
  have g:=un hok;have k:D=PU W S L T H F f:=by rw[m.j];unfold QL;rw[G hok]
  have j:=LE (λi o=>Aj W S L T H F R U O a f c i o s t g);rw[<-k]at j;unfold NA at j;clear hok k g;go_upto_region 3 with fail;refine AX ?_;refine BE z 44 _ z w.heap.size 0 z _ _ e.r1.range underlying44 z QD ?_;simp only[PS];go_wp2_with fail;refine(j.j _ (p.j.I e.e)).J ?_;rintro b I ⟨n,q,o,r,rfl,v,own,B,C,g⟩;have J:=e.r2.lt;replace e:=e.I g;clear g j;unfold MT
  try simp only[PS]
  refine‹∀(a:Act) (w:Q9),wpList _ _ _ _ a w->_› _ _ ?_
  refine BV z 115 _ _ z (w.heap.size+1) 0 (dK D.C D.W D.S D.L D.T D.H D.F D.R D.U D.O (Y n D.rs.length q) (Y o D.ops.length r)) z z (e.r2.there z) UH h ?_
  try simp only[PS]
  obtain⟨j,i⟩:=e.fin D n q o r v own (λg k=>by have:=B g k;omega) (λg k=>by have:=C g k;omega);have g:=LE i;clear i;generalize i:I.setCells _ _ _=y at j g⊢;clear i e
  try go_wp2
  refine VY 2 results120 _ ?_ j ?_ g.j<;>rfl
theorem s8(W S L T H F R U O:Int)(a:Q5)(f:List Pr)(c:Nat)(w:Q9)(h:Prs w a f)(m:f.length<=c)(o:f.length<=1048576)(q:∀x∈f,x.1.size<=1048576/\x.2.size<=1048576)(j:bi W S L T H F f):Calls prog 152 #[NA W S L T H F R U O a f.length c] w λx i=>∃k l b e,x=Q2 (MT (PU W S L T H F f) k l b e)/\(PU W S L T H F f).ops.length<=e/\((k=a/\l=c/\(PU W S L T H F f).rs=f)\/(PU W S L T H F f).rs=[])/\OwnS i b (LG (PU W S L T H F f).ops)/\(∀g,blk b (PU W S L T H F f).ops.length=some g->w.heap.size<=g)/\Q3 w i:=by
 have r:=j.1;unfold PU
 cases hfit:da S T F with
 | false =>
  refine(Dz W S L T H F R U O a f c w j (GV (by unfold da at hfit;exact hfit))).J ?_;rintro x i ⟨rfl,l⟩;exact⟨_,_,_,_,z,C,.inr z,.inl z,(λg k=>by cases k),l⟩
 | true =>
  obtain⟨n,rfl⟩:∃n:Nat,W=(n:Int):=⟨W.toNat,d⟩;refine(Mz S L T H F R U O n (56-n) a f c w h m o q d d d j (AW (by unfold da at hfit;exact hfit))).J ?_;rintro x i ⟨b,e,rfl,g,p,k,l⟩;exact⟨_,_,_,_,z,g,.inl ⟨z,z,z⟩,p,k,l⟩
theorem A7(W S L T H F R U O:Int)(a:Q5)(i:List Pr)(c:Nat)(w:Q9)(d:Prs w a i)(l:i.length<=c)(s:i.length<=1048576)(K:∀b∈i,b.1.size<=1048576/\b.2.size<=1048576):Calls prog 133 #[NA W S L T H F R U O a i.length c] w λb g=>kw w g b (QL W S L T H F R U O i):=by
 have k:=LE (λg o=>sm W S L T H F R U O a i c g o l s K);have B:=LE d;clear d;obtain⟨D,p⟩:=nHz (QL W S L T H F R U O i);rw[<-p.j];unfold NA at k⊢;go_enter func133,ntmps133;go_upto_region 1 with fail;generalize e:w.alloc _=x;obtain⟨m,q,r⟩:=LP e;clear e;generalize f:x.alloc _=N;obtain⟨n,t,e⟩:=LP f;clear f;rw[q]at e;have f:StB w N (sJ W S L T H F R U O (Y a i.length c)) (λ_=>True):=⟨m.E (n.J m.size),(r.I n).q,e.q,XP (λ_=>trivial)⟩;have u:w.heap.size+1<N.heap.size:=e.q.lt;clear m n r e q t;refine AX ?_;refine BE z 44 _ z w.heap.size 0 z _ _ f.r1.range underlying44 z QD ?_;simp only[PS];go_wp2_with fail;refine(k.j _ (B.j.I f.e)).J ?_;rintro b v ⟨rfl,e⟩;replace f:=f.I e;clear e u k
 cases hok:OW W S L T H F R U O i with
 | false =>
  obtain rfl:D=LO 1:=by rw[p.j];unfold QL;rw[AF (by rw[hok];simp)]
  go_upto_region 2 with fail;refine f.noR 1 _ _ z γ z z z z (λy e k=>?_)
  try simp only[PS]
  clear f
  try go_wp2
  refine YG 2 results133 _ ?_ e ?_ k.j<;>rfl
 | true =>
  have e:=un hok;have k:D=PU W S L T H F i:=by rw[p.j];unfold QL;rw[AI hok]
  have n:=LE (λm r g o q=>s8 W S L T H F R U O m i r g o q s K e);rw[<-k]at n;unfold NA at n;clear hok k e;have G:=f.r2.lt;have e:=f.r1.y 9;have g:=f.r1.lt;go_wp2_with fail;clear e g;have g:=gu a i c v (B.j.I f.e) s;unfold LX at g;refine g.J ?_;rintro b A ⟨q,r,rfl,C,k,E,e⟩;unfold LX;have m:=RX (lo:=v.heap.size) k TS E;replace f:=f.I e;clear e g k;have e:=f.r1.y 9;have k:=f.r1.A 9;have g:=f.r1.lt;go_upto_region 4 with fail;clear e k g;replace f:=f.set 9 σ (Y q i.length r);replace m:=m.V (NZ (BC A (some w.heap.size)) 9 (Y q i.length r)) (λg e=>by cases e;omega);generalize e:World.setCell _ _ _=v6 at f m⊢;clear e;refine AX ?_;refine BE z 44 _ z w.heap.size 0 z _ _ f.r1.range underlying44 z QD ?_;simp only[PS]
  go_wp2_with fail;refine(n.j q r _ m.q.prs C).J ?_;rintro b P ⟨o,u,t,M,rfl,X,h,I,J,e⟩;have l6:=f.r2.lt
  have V:=λg k=>gz (g:=g) m.q k
  replace f:=f.I e;replace m:=m.I e;clear e n;unfold MT
  obtain⟨Q,own,j⟩:D.rs.length<=u/\OwnDn P D.rs D.ops o t/\(∀g,blk o D.rs.length=some g->v.heap.size<=g):=by
   rcases h with ⟨rfl,rfl,e⟩|e
   .rw[e]
    exact⟨C,⟨m.q,I,gy V J⟩,E⟩
   rw[e]
   exact⟨AL,⟨.inl z,I,.inl z⟩,λg k=>by cases k⟩
  try simp only[PS]
  refine‹∀(a:Act) (w:Q9),wpList _ _ _ _ a w->_› _ _ ?_
  refine BV z 115 _ _ z (w.heap.size+1) 0 (dK D.C D.W D.S D.L D.T D.H D.F D.R D.U D.O (Y o D.rs.length u) (Y t D.ops.length M)) z z (f.r2.there z) UH κ ?_
  try simp only[PS]
  obtain⟨e,n⟩:=f.fin D o u t M Q own (λg k=>by have:=j g k;omega) (λg k=>by have:=J g k;omega);have k:=LE n;clear n;generalize g:P.setCells _ _ _=y at e k⊢;clear g f
  try go_wp2
  refine YG 2 results133 _ ?_ e ?_ k.j X<;>rfl
