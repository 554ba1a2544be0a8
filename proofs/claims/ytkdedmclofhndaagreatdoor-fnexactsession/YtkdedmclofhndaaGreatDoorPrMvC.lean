import Derived.Test.YtkdedmclofhndaaGreatDoorPrMvS
set_option maxHeartbeats 16000000
namespace Go.Proofs.YtkdedmclofhndaaGreatDoor
open Tryz
open Go.RowKit
set_option linter.all false
set_option maxRecDepth 8000
theorem Au(W S L T H F R U O:Int)(a:xA)(d:List Pr)(c:Nat)(w:xV)(h:Prs w a d)(p:d.length<=1048576)(q:∀x∈d,x.1.size<=1048576/\x.2.size<=1048576):Calls prog 96 #[MI W S L T H F R U O a d.length c] w λx f=>TJ w f x (OY W S L T H F R U O d):=by
 have g:=Y (λf l=>ky W S L T H F R U O a d c f l p q);have m:=Y h;clear h;obtain⟨D,i⟩:∃D,Hid (D=OY W S L T H F R U O d):=⟨_,Y rfl⟩;rw[<-i.j];unfold MI at g⊢;go_enter func96,ntmps96;go_upto_region 1 with fail;generalize b:w.alloc _=v;obtain⟨j,n,o⟩:=LK b;clear b;generalize b:v.alloc _=r;obtain⟨k,s,e⟩:=LK b;clear b;rw[n]at e;have b:StB w r (sJ W S L T H F R U O (yI a d.length c)) (λ_=>True):=⟨j.E (k.J j.size),(o.I k).q,e.q,UO (λ_=>trivial)⟩;have t:w.heap.size+1<r.heap.size:=e.q.lt;clear j k o e n s;refine AV ?_;refine AZ rfl 39 _ rfl w.heap.size 0 rfl _ _ b.r1.range underlying39 rfl OQ ?_;simp only[PS];go_wp2_with fail;refine(g.j _ (m.j.I b.e)).J ?_;rintro x B ⟨rfl,e⟩;replace b:=b.I e;clear e t g
 cases hok:NX W S L T H F R U O d with
 | false =>
  obtain rfl:D=LJ 1:=by rw[i.j];unfold OY;rw[AF (by rw[hok];simp)]
  go_upto_region 2 with fail;refine b.noR 1 _ _ rfl γ rfl rfl rfl rfl (λy e g=>?_)
  try simp only[PS]
  clear b
  try go_wp2
  refine TI 2 results96 _ ?_ e ?_ g.j<;>rfl
 | true =>
  have e:=nt hok;have j:D=OH W S L T H F d:=by rw[i.j];unfold OY;rw[AI hok]
  have g:=Y (λf l=>xK W S L T H F R U O a d c f l p q e);rw[<-j]at g;unfold MI at g;clear hok j e;go_upto_region 3 with fail;refine AV ?_;refine AZ rfl 39 _ rfl w.heap.size 0 rfl _ _ b.r1.range underlying39 rfl OQ ?_;simp only[PS];go_wp2_with fail;refine(g.j _ (m.j.I b.e)).J ?_;rintro x z ⟨j,n,l,o,rfl,s,own,t,u,e⟩;have A:=b.r2.lt;replace b:=b.I e;clear e g;unfold MD
  try simp only[PS]
  refine‹∀(a:Act) (w:xV),wpList _ _ _ _ a w->_› _ _ ?_
  refine BU rfl 102 _ _ rfl (w.heap.size+1) 0 (dK D.C D.W D.S D.L D.T D.H D.F D.R D.U D.O (yI j D.rs.length n) (yI l D.ops.length o)) rfl rfl (b.r2.there rfl) RQ κ ?_
  try simp only[PS]
  obtain⟨e,f⟩:=b.fin D j n l o s own (λg k=>by have:=t g k;omega) (λg k=>by have:=u g k;omega);have g:=Y f;clear f;generalize f:z.setCells _ _ _=y at e g⊢;clear f b
  try go_wp2
  refine TI 2 results96 _ ?_ e ?_ g.j<;>rfl
theorem pF(W S L T H F R U O:Int)(a:xA)(d:List Pr)(c:Nat)(w:xV)(h:Prs w a d)(l:d.length<=c)(m:d.length<=1048576)(p:∀x∈d,x.1.size<=1048576/\x.2.size<=1048576)(i:XD W S L T H F d):Calls prog 171 #[MI W S L T H F R U O a d.length c] w λx f=>∃j k b e,x=yT (MD (OH W S L T H F d) j k b e)/\(OH W S L T H F d).ops.length<=e/\((j=a/\k=c/\(OH W S L T H F d).rs=d)\/(OH W S L T H F d).rs=[])/\OwnS f b (Or (OH W S L T H F d).ops)/\(∀g,blk b (OH W S L T H F d).ops.length=some g->w.heap.size<=g)/\yX w f:=by
 have q:=i.1;unfold OH
 cases hfit:XO S T F with
 | false =>
  refine(Bo W S L T H F R U O a d c w i (GT (by unfold XO at hfit;exact hfit))).J ?_;rintro x f ⟨rfl,j⟩;exact⟨_,_,_,_,rfl,AA _,.inr rfl,.inl rfl,(λg k=>by cases k),j⟩
 | true =>
  obtain⟨n,rfl⟩:∃n:Nat,W=(n:Int):=⟨W.toNat,ω⟩;refine(K3 S L T H F R U O n (56-n) a d c w h l m p ω ω ω i (AW (by unfold XO at hfit;exact hfit))).J ?_;rintro x f ⟨b,e,rfl,g,o,k,j⟩;exact⟨_,_,_,_,rfl,g,.inl ⟨rfl,rfl,rfl⟩,o,k,j⟩
theorem yH(W S L T H F R U O:Int)(a:xA)(d:List Pr)(c:Nat)(w:xV)(h:Prs w a d)(N:d.length<=c)(o:d.length<=1048576)(A:∀x∈d,x.1.size<=1048576/\x.2.size<=1048576):Calls prog 152 #[MI W S L T H F R U O a d.length c] w λx f=>ef w f x (OY W S L T H F R U O d):=by
 have g:=Y (λf k=>kz W S L T H F R U O a d c f k N o A);have s:=Y h;clear h;obtain⟨D,l⟩:∃D,Hid (D=OY W S L T H F R U O d):=⟨_,Y rfl⟩;rw[<-l.j];unfold MI at g⊢;go_enter func152,ntmps152;go_upto_region 1 with fail;generalize b:w.alloc _=P;obtain⟨i,m,n⟩:=LK b;clear b;generalize b:P.alloc _=C;obtain⟨j,p,e⟩:=LK b;clear b;rw[m]at e;have b:StB w C (sJ W S L T H F R U O (yI a d.length c)) (λ_=>True):=⟨i.E (j.J i.size),(n.I j).q,e.q,UO (λ_=>trivial)⟩;have q:w.heap.size+1<C.heap.size:=e.q.lt;clear i j n e m p;refine AV ?_;refine AZ rfl 39 _ rfl w.heap.size 0 rfl _ _ b.r1.range underlying39 rfl OQ ?_;simp only[PS];go_wp2_with fail;refine(g.j _ (s.j.I b.e)).J ?_;rintro x r ⟨rfl,e⟩;replace b:=b.I e;clear e q g
 cases hok:NX W S L T H F R U O d with
 | false =>
  obtain rfl:D=LJ 1:=by rw[l.j];unfold OY;rw[AF (by rw[hok];simp)]
  go_upto_region 2 with fail;refine b.noR 1 _ _ rfl γ rfl rfl rfl rfl (λy e g=>?_)
  try simp only[PS]
  clear b
  try go_wp2
  refine UZ 2 results152 _ ?_ e ?_ g.j<;>rfl
 | true =>
  have e:=nt hok;have g:D=OH W S L T H F d:=by rw[l.j];unfold OY;rw[AI hok]
  have i:=Y (λj n f k m=>pF W S L T H F R U O j d n f k m o A e);rw[<-g]at i;unfold MI at i;clear hok g e;have V:=b.r2.lt;have e:=b.r1.y 9;have g:=b.r1.lt;go_wp2_with fail;clear e g;have g:=ZK a d c r (s.j.I b.e) o;unfold LR at g;refine g.J ?_;rintro x Q ⟨m,n,rfl,t,j,u,e⟩;unfold LR;have f:=QF (lo:=r.heap.size) j RG u;replace b:=b.I e;clear e g j;have e:=b.r1.y 9;have j:=b.r1.A 9;have g:=b.r1.lt;go_upto_region 4 with fail;clear e j g;replace b:=b.set 9 σ (yI m d.length n);replace f:=f.V (NA (AY Q (some w.heap.size)) 9 (yI m d.length n)) (λg e=>by cases e;omega);generalize e:World.setCell _ _ _=Z at b f⊢;clear e;refine AV ?_;refine AZ rfl 39 _ rfl w.heap.size 0 rfl _ _ b.r1.range underlying39 rfl OQ ?_;simp only[PS]
  go_wp2_with fail;refine(i.j m n _ f.q.prs t).J ?_;rintro x E ⟨j,q,p,B,rfl,J,K,v,z,e⟩;have X:=b.r2.lt
  have I:=λg k=>ZP (g:=g) f.q k
  replace b:=b.I e;replace f:=f.I e;clear e i;unfold MD
  obtain⟨G,own,M⟩:D.rs.length<=q/\OwnDn E D.rs D.ops j p/\(∀g,blk j D.rs.length=some g->r.heap.size<=g):=by
   rcases K with ⟨rfl,rfl,e⟩|e
   ·rw[e]
    exact⟨t,⟨f.q,v,ZO I z⟩,u⟩
   rw[e]
   exact⟨AL _,⟨.inl rfl,v,.inl rfl⟩,λg k=>by cases k⟩
  try simp only[PS]
  refine‹∀(a:Act) (w:xV),wpList _ _ _ _ a w->_› _ _ ?_
  refine BU rfl 102 _ _ rfl (w.heap.size+1) 0 (dK D.C D.W D.S D.L D.T D.H D.F D.R D.U D.O (yI j D.rs.length q) (yI p D.ops.length B)) rfl rfl (b.r2.there rfl) RQ κ ?_
  try simp only[PS]
  obtain⟨e,i⟩:=b.fin D j q p B G own (λg k=>by have:=M g k;omega) (λg k=>by have:=z g k;omega);have g:=Y i;clear i;generalize i:E.setCells _ _ _=y at e g⊢;clear i b
  try go_wp2
  refine UZ 2 results152 _ ?_ e ?_ g.j J<;>rfl
