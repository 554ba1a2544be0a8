import Derived.Test.YteflhojcomcfaaaGreatDoorPrG41
set_option maxHeartbeats 64000000
set_option maxRecDepth 8000
set_option linter.all false
namespace Go.Proofs.YteflhojcomcfaaaGreatDoor
open _root_.ByteArray(empty)
section
open Tryz
open Go.RowKit
theorem L5{w a:Q9}{y:Wo}{q:Wp}{o:Nat->Nat}(h:RY y a q o)(e:∀b,b<w.heap.size->o b=0)(c:Q3 w a):qu w a (Q2 (MD y q)) y:=by
 refine⟨q,λb=>if w.heap.size<=b/\b<a.heap.size then o b else 0,z,h.lab (λb c=>?_),λb k=>?_,c⟩
 .show(if w.heap.size<=b/\b<a.heap.size then o b else 0)=o b
  by_cases h:w.heap.size<=b
  .rw[G ⟨h,c⟩]
  rw[A (λk=>h k.1),e b d]
 by_cases h:w.heap.size<=b/\b<a.heap.size
 .exact h
 exact absurd (A h) k
theorem zV(g:Wo)(q:Wp)(e:Ev)(a:Q5)(c:Nat)(m:Q5)(n:Nat)(w:Q9)(o:g.at w q)(T:g.le 1048576)(Q:Chs w a e.b)(S:Ints w m e.fs)(R:e.le):Calls prog 49 #[MD g q,OQ e a c m n] w λr y=>qu w y r (g.doR e):=by
 have E:=LE (λy k=>pT g q y k T);unfold MD at E⊢;unfold OQ;have N:=LE o;have U:=LE Q;have W:=LE S;have V:=LE R;clear o Q S R T;obtain⟨C,I⟩:=nHz (g.doR e);rw[<-I.j];go_enter func49,ntmps49;go_upto_region 1 with fail;generalize i:w.alloc _=b;obtain⟨F,J,b0⟩:=LP i;clear i;generalize p:b.alloc _=d;obtain⟨i,B,H⟩:=LP p;clear p;generalize s:d.alloc _=v3;obtain⟨p,L,K⟩:=LP s;clear s;rw[J]at H B;rw[B]at K L;have s:=F.E ((i.E (p.J i.size)).J F.size);have u:=((b0.I i).I p).q;have v:=(H.I p).q;have t:=K.q;clear F i p b0 H K J B L;refine AX ?_;refine BE z 47 _ z w.heap.size 0 z _ _ u.range underlying47 z NH ?_;simp only[PS];go_wp2_with fail;refine(E.j _ (N.j.I s)).J ?_;rintro r K ⟨rfl,p⟩;replace s:=s.E (p.J s.size);replace u:=u.I p
 replace v:=v.I p;replace t:=t.I p;clear p E;obtain⟨G,J⟩:=nHz (MF g);rw[<-J.j]
 cases G with
 | false =>
  have p:C=pP:=by rw[I.j];unfold Wo.doR;rw[<-J.j,AF σ]
  have E:=LE p;clear p I;go_upto_region 2 with fail;refine AX ?_;refine VD z (.agg #[Z 0,Y none 0 0,Y none 0 0,Q1 false,Z 0,Z 0,Z 0,Z 0,Z 0,Z 0,Z 0,Z 0,Z 0,Y none 0 0,Y none 0 0,Y none 0 0]) l ?_;simp only[PS];refine BV z 47 _ _ z (w.heap.size+1+1) 0 #[Z 0,Y none 0 0,Y none 0 0,Q1 false,Z 0,Z 0,Z 0,Z 0,Z 0,Z 0,Z 0,Z 0,Z 0,Y none 0 0,Y none 0 0,Y none 0 0] z z (t.there z) NH h ?_
  try simp only[PS]
  have p:=QF K (w.heap.size+1+1) 0 [Z 0,Y none 0 0,Y none 0 0,Q1 false,Z 0,Z 0,Z 0,Z 0,Z 0,Z 0,Z 0,Z 0,Z 0,Y none 0 0,Y none 0 0,Y none 0 0];have F:=t.sets [Z 0,Y none 0 0,Y none 0 0,Q1 false,Z 0,Z 0,Z 0,Z 0,Z 0,Z 0,Z 0,Z 0,Z 0,Y none 0 0,Y none 0 0,Y none 0 0] z;have B:=s.E (MU p s.size (λg e=>by have e:=BQ e;omega));generalize World.setCells _ _ _ _=y8 at F B p⊢;clear p u v t s
  try go_wp2
  exact XM 4 47 results49 _ z _ _ F underlying47 z NH z ⟨⟨none,0,none,0,none,0,none,0,none,0⟩,λ_=>0,by rw[E.j];rfl,by rw[E.j];exact⟨.inl z,.inl z,.inl z,.inl z,.inl z⟩,λi k=>absurd z k,B⟩
 | true =>
  obtain⟨B,O,P⟩:=mx J.j.symm;have p:C=g.doE e:=by rw[I.j];unfold Wo.doR;rw[<-J.j,AI z]
  have M:=LE (B.doE e);rw[<-p]at M;have L:=LE (λy k=>zZ g q y k B);have H:=LE (λE F y X A k3=>Qq g E e a c m n F y X B A k3 V.j);have F:=LE (λE y k=>zZ C E y k M.j);rw[<-p]at H;unfold MD at L H F;unfold OQ at H;clear p I J O P B M;go_upto_region 3 with fail;refine WN (5) (S:=λy=>Row y w.heap.size (wL g q)/\Row y (w.heap.size+1) [Z e.K,Y a e.b.length c,Z e.cut,Y m e.fs.length n]) h (⟨u.I (D).drew,v.I (D).drew⟩) (λP=>?_);refine ME 0 (.agg (wA g q)) z (AT ⟨f,λw p=>by obtain⟨J,B⟩:=p;exact SA 47 _ z _ 0 z _ _ J.range underlying47 z NH⟩) P (ME 2 (.agg #[Z e.K,Y a e.b.length c,Z e.cut,Y m e.fs.length n]) z (AT ⟨f,λw p=>by obtain⟨J,B⟩:=p;exact SA 87 _ z _ 0 z _ _ B.range underlying87 z ZB⟩) P ?_)
  simp only[PS];refine OJ 1 z (λI y=>?_);have p:=(@D K.heap.size K).drew;replace s:=s.E (p.J s.size);replace u:=u.I p;replace v:=v.I p;replace t:=t.I p;generalize M:K.drew=j at s u v t⊢;clear M p;refine LM f 77 #[.agg (wA g q)] l (L.j _ (N.j.I s)) ?_;rintro r y1 ⟨E,o1,rfl,O,B,p⟩;have M:=O.woF (F:=λi=>j.heap.size<=i) (λi k=>KL λo=>k (B i ω));refine⟨_,z,?_⟩;unfold MD;replace s:=s.E (p.J s.size);replace u:=u.I p;replace v:=v.I p;replace t:=t.I p;clear p L O B;refine y.j _ _ (⟨u,v⟩) (λaP=>?_)
  try simp only[PS]
  refine OJ 3 z (λI y=>?_);refine LM f 78 #[.agg (wA g E),.agg #[Z e.K,Y a e.b.length c,Z e.cut,Y m e.fs.length n]] l (H.j E _ _ M (U.j.I s) (W.j.I s)) ?_;rintro r y2 ⟨A,rfl,B,p⟩;refine⟨_,z,?_⟩;unfold MD;replace s:=s.E (p.J s.size);replace u:=u.I p;replace v:=v.I p;replace t:=t.I p;clear p H M;refine y.j _ _ (⟨u,v⟩) (λaQ=>?_)
  try simp only[PS]
  refine OJ 4 z (λI y=>?_);refine LM f _ _ l (F.j A _ B.at) ?_;rintro r x ⟨k,o3,rfl,L,M,p⟩;refine⟨_,z,?_⟩;unfold MD;have l2:=s.size;have X:=t.lt;replace s:=s.E (p.J s.size);replace u:=u.I p;replace v:=v.I p;replace t:=t.I p;clear p F B;refine y.j _ _ (⟨u,v⟩) (λaR=>?_)
  try simp only[PS]
  refine QZ (rs:=[5]) h σ ?_;refine AllReadyT.last z (λI y=>?_);refine VC z 47 _ _ z (w.heap.size+1+1) 0 (wA C k) z z (t.there z) NH h ?_;refine y.j _ _ trivial (λ_=>?_)
  try simp only[PS]
  refine VE h ?_ _;have p:=QF x (w.heap.size+1+1) 0 (wL C k);have F:=t.sets (wL C k) z;have H:=L.V p (M _ X);have B:=s.E (MU p s.size (λg e=>by have e:=BQ e;omega));generalize World.setCells _ _ _ _=y8 at F H B p⊢;have O:=LE H;clear p H L u v t s
  try go_wp2
  exact XM 4 47 results49 _ z (wL C k) _ F underlying47 z NH z (L5 O.j (λi p=>M i ω) B)
end
section
open Tryz
open Go.RowKit nw
variable {c:Nat}{a:Q5}{w:Q9}
theorem Bl{i f:Q9}{B:Nat}{d:Dk}{G:Nat->Prop}{q:Wp}{y:Wo}{r:Ending}(h:DkN w B d G q a c)(g:Q3 w i)(s:qu i f r y):∃e,r=Q2 (MD y e)/\DkN f B d G q a c/\DkN (f.setCells B 0 (NF y e)) B ⟨y,d.b⟩ (PO w (f.setCells B 0 (NF y e)) G) e a c/\Fr w (f.setCells B 0 (NF y e)) G/\Q3 i f:=by
 obtain⟨e,o,rfl,t,m,l⟩:=s;have j:=g.E (l.J g.size);obtain⟨n,p⟩:=h.world j (tS t (λb k=>⟨AJ g.size (m b k).1,(m b k).2⟩));exact⟨e,z,h.I j,n,p,l⟩
theorem P5{v u:Q9}{B:Nat}{G:Nat->Prop}{e:Dk}{q:Wp}(f:Fr w v G)(h:DkN u B e (PO v u (PO w v G)) q a c)(g:Fr v u (PO w v G)):DkN u B e (PO w u G) q a c/\Fr w u G :=⟨h.J (λb l k=>by rcases k with (k|k)|k;exact .inl k;exact .inr ⟨k.1,AC k.2 g.size⟩;exact .inr ⟨AJ f.size k.1,k.2⟩),f.E g (λb l k=>by rcases k with k|k;exact k;exact absurd l d)⟩
theorem Ne{L:Nat}{b:List Ch}(h:w.ownsRow L 102 3 (Y a b.length c) b.length (NL b)):Chs w a b:=by
 rcases MS h with ⟨d,e⟩|⟨g,f,d,e,_,i⟩
 .exact .inl (AD e)
 cases d
 exact i.chs
theorem O0{d:Q9}{e:List Int}(h:Ints w a e)(j:∀b,a.map (·.block)=some b->b<d.heap.size/\d.heap[b]?=w.heap[b]?):Ints d a e:=by
 rcases h with h|⟨b,o,rfl,m,f⟩
 .exact .inl h
 obtain⟨k,l⟩:=j b z
 exact .inr ⟨b,o,z,k,λi g=>(DT (a:=(Ki b (o+i))) l).E (f i g)⟩
def io(K:Int)(d:Dk)(b:List Int):Dk×Q4:=(⟨d.x.doR (jm K d.b b),if K=2 then [] else d.b⟩,cw d.x (jm K d.b b))
theorem Hy(K:Int)(S:List Int)(na:Q5)(nc L:Nat)(m:Dk)(B:Nat)(o:Nat->Prop)(q:Wp)(a:Q5)(c:Nat)(w:Q9)(t:DkN w B m o q a c)(ho:m.ok 1000)(hG:∀n,o n->n<w.heap.size)(aV:w.ownsRow L 3 1 (Y na S.length nc) S.length (S.map (Value.int .i64)))(dM:∀n,(Y na S.length nc).ownBlock=some n->¬o n)(eK:S.length<=30000)(hK:1<=K/\K<=4):Calls prog 51 #[Dr B 0,Z K,Y na S.length nc] w λr V=>ie w V B o r (io K m S):=by
 have HH:=LE t;have HK:=LE ho.w;have I:=LE ho;have HG:=LE hG;have l:=LE dM;have U:=LE aV;have lB:=t.r.lt;clear t ho hG aV dM;go_enter func51,ntmps51;go_upto_region 2 with fail;generalize e:w.alloc _=v1;obtain⟨i,H,g⟩:=LP e;have R:=LE i;have X:=LE g.q;have h:w.heap.size<v1.heap.size:=d
 clear e i H g;go_upto_if 14 with fail;go_cut [] from 15 to 21 (λM=>∃G D,Row M w.heap.size [Z K,Y none 0 0,Z (S.getD 0 (-1)),Y G (S.drop 1).length D]/\Ints M G (S.drop 1)/\(∀n,G.map (·.block)=some n->n<w.heap.size/\¬o n)/\Q3 w M)
 case first =>
  cases S with
  | nil =>
   go_wp2_with fail;go_meet;exact⟨none,0,X.j,.inl z,(λn k=>by cases k),R.j⟩
  | cons N v =>
   obtain⟨g,s,cur,e,eR,-,eT,-⟩:=U.j.2.resolve_left (λk=>by have:=k.2;simp at this)
   obtain rfl:na=Hw g 0:=by cases e;rfl
   obtain rfl:s=nc:=by cases e;rfl
   have T:=(UA U.j).I R.j;have A:=l.j g z;have C:=(SU U.j (b:=g) z).2;clear e;have eV:(1:Int)<=(v.length:Int)+1:=d
   have lc:((v.length:Int)+1)<=(s:Int):=by have:(N::v).length=v.length+1:=z;omega
   obtain⟨y,H⟩:∃p,(if s=1 then some ((Ki g 0):Addr) else Hw g 1)=p:=⟨_,z⟩;have eF:Hid (v=[]\/y=Hw g 1):=LE (by by_cases eJ:s=1;exact .inl (AD d);exact .inr (by rw[<-H,AF eJ]));have eE:Hid (∀n,y.map (·.block)=some n->n<w.heap.size/\¬o n):=LE (λn k=>by rw[<-H]at k;split at k<;>(cases k;exact⟨C,A⟩));have E:=X.j;have q0:=T.y 0;have lg:=T.lt;have q2:=E.y 2;have q3:=E.y 3;have f2:=E.A 2;have f3:=E.A 3;have lE:=E.lt;have b:g≠w.heap.size:=d
   have i:=NZ (BC v1 (some w.heap.size)) 2 (Z N);have F:=E.set 2 j (Z N);have Q:=T.V i (λe=>b (by cases e;rfl));have J:=R.j.E (MU i (KF h) (λ_ e=>by cases e;exact AA));obtain⟨x2,P⟩:=u (v1.setCell (Ki w.heap.size 2) (Z N));rw[<-P]at F Q J;have O:=NZ (BC x2 (some w.heap.size)) 3 (Y y v.length (s-1));have x:=LE (F.set 3 j (Y y v.length (s-1)));have aO:=LE (Q.V O (λe=>b (by cases e;rfl)));have W:=LE (J.E (MU O J.size (λ_ e=>by cases e;exact AA)));rw[P]at x aO W;clear i O F Q J P x2 A C;rw[show decide (0<(N::v).length)=true from AM j];simp only[BN];go_wp2_with fail;go_meet;exact⟨y,s-1,x.j,eF.j.imp id (λe=>⟨g,1,e,aO.j.lt,λi F=>by rw[Nat.add_comm];exact aO.j.cell (i+1) _ (by simp[List.getD,show i<v.length by simpa using F])⟩),eE.j,W.j⟩
 case rest =>
 obtain⟨G,D,E,F,A,P⟩:=hcut
 rename World=>y1
 obtain⟨O,J⟩:=u (S.getD 0 (-1));obtain⟨y,k⟩:=u (S.drop 1);obtain⟨v,s⟩:=u (if K=2 then m.b else []);obtain⟨C,N⟩:=u (if K=2 then [] else m.b);have b:y.length<=1048576:=by rw[k,BS];omega
 have HX:Hid (io K m S=(⟨m.x.doR ⟨K,v,O,y⟩,C⟩,cw m.x ⟨K,v,O,y⟩)):=LE (by unfold io jm;rw[<-J,<-k,<-s,<-N])
 have x:Ev.le ⟨K,v,O,y⟩:=⟨by rw[s];split;exact⟨by have:=I.j.l;show m.b.length<=1048576;omega,λg i=>by have:=I.j.s g i;omega⟩;exact⟨j,λg i=>by cases i⟩,b⟩
 rw[<-J,<-k]at E;rw[<-k]at F;have Q:=LE E;have W:=LE F;have cS:=LE A;have i:=LE P;have T:=LE (AG s N);have H:=LE x;clear J k s N b x E F A P X R h eK U l;go_upto_if 23 with fail;go_cut [] from 24 to 32 (λM=>∃A h g k,Row M w.heap.size [Z K,Y A v.length h,Z O,Y G y.length D]/\Ints M G y/\Chs M A v/\DkN M B ⟨m.x,C⟩ (PO w M o) q g k/\Fr w M o)
 case first =>
  have b:=AC lB i.j.size
  by_cases R:K=2
  .subst R
   obtain⟨rfl,rfl⟩:v=m.b/\C=[]:=T.j;have g:=HH.j.I i.j;have c16:=g.r.y 16;have s:=Q.j.y 1;have k:=Q.j.A 1;have lE:=Q.j.lt;clear g;go_upto_region 7 with fail;obtain⟨N,P⟩:=u (y1.setCell (Ki w.heap.size 1) (Y a m.b.length c));have x:=NZ (BC y1 (some w.heap.size)) 1 (Y a m.b.length c);have F:=Q.j.set 1 j (Y a m.b.length c);rw[<-P]at x F⊢;have J:=i.j.E (MU x i.j.size (λ_ e=>by cases e;exact AA));have g:=HH.j.I J;have eM:=g.r.lt;have eP:=g.r.y 16;have g16:=g.r.A 16;have l:=LE F;have U:=LE J;clear P x c16 s k lE b F J g;have X:=LE eM;go_wp2_with fail;go_meet;rw[<-World.setCell_alloc_past (w:=N) (.cells #[] 102) B 16 (Y (Hw N.heap.size 0) 0 0) X.j];have g:=HH.j.I U.j;have E:=DH (base:=B+1) (size:=3) N #[] 0 (by have:=X.j;omega) j j (e:=102)
   obtain⟨J,x⟩:=g.clear (LH N (.cells #[] 102)) E (λn k=>by cases k;exact AA);have F:=Ne (BT (a:=(Ki B 16)) (g.o.alloc (.cells #[] 102)) (λe=>by have k:=(SU g.o e).1;have k2:B+1<=B:=k;omega) (Y (Hw N.heap.size 0) 0 0));have eO:=(l.j.I (LH N (.cells #[] 102))).other (Ki B 16) (by show B≠w.heap.size;omega) (Y (Hw N.heap.size 0) 0 0);have P:Fr w _ o:=(SW U.j).E x (λn _ k=>k);exact⟨a,c,Hw N.heap.size 0,0,eO,O0 W.j (λn k=>by obtain⟨k1,k2⟩:=cS.j n k;exact⟨AC k1 P.size,(P.block n k1 k2).E (i.j.block n k1).symm⟩),F,J.J (λn s k=>k.imp_right (λk=>⟨AJ U.j.size k.1,k.2⟩)),P⟩
  obtain⟨rfl,rfl⟩:v=[]/\C=m.b:=⟨by rw[T.j.1,AF R],by rw[T.j.2,AF R]⟩
  have g:(K == 2)=false:=BL.2 R;go_wp2_with fail;go_meet;exact⟨none,0,a,c,Q.j,W.j,.inl z,(HH.j.I i.j).J (λn _ k=>.inl k),SW i.j⟩
 case rest =>
 obtain⟨A,h,a2,c2,E,F,s,g,k⟩:=hcut
 rename World=>b
 obtain⟨G3,n⟩:=u (PO w b o);rw[<-n]at g;have aO:=LE n;have dZ:=LE k;have X:=LE g;have l:=LE E;have eB:=LE F;have bQ:=LE s;have eY:w.heap.size<=b.heap.size:=k.size;have eX:=g.r.lt;clear E F s g k n Q W cS i T I;obtain⟨⟨g,i⟩,k⟩:∃p,m.x.call ⟨K,v,O,y⟩=p:=⟨_,z⟩;have n:=lT m.x ⟨K,v,O,y⟩;rw[k]at n;simp only at n;obtain⟨N,HN⟩:=nHz (qIJ m.x ⟨K,v,O,y⟩);have bT:Hid ((i=true->g.C=(N:Int))/\(i=false->N=9)):=LE ⟨λe=>by rw[HN.j];unfold qIJ;rw[k];simp only;rw[AI e];omega,λe=>by rw[HN.j];unfold qIJ;rw[k];simp only;rw[AF (by rw[e];simp)]⟩;have eQ:N<=9:=by rw[HN.j];exact oQ _ _
 have CC:=LE (λV k1 k2=>sF m.x q ⟨K,v,O,y⟩ A h G D V k1 (af HK.j) k2 H.j);have CD:=LE (λV k1 k2 k3=>zV m.x q ⟨K,v,O,y⟩ A h G D V k1 (af HK.j) k2 k3 H.j);rw[k]at CC;unfold OQ at CC CD;clear k n H hK;go_upto_region 8 with fail;go_cut [8,9] from 33 to 41 (λn k M=>∃XB cs,n=Dr XB 0/\k=Q1 i/\Row M XB (Z g.C::cs)/\b.heap.size<=XB/\Q3 b M)
 case first =>
  have k:=(@AB b.heap.size b).drew;refine AN (S:=λV=>DkN V B ⟨m.x,C⟩ G3 q a2 c2/\Row V w.heap.size [Z K,Y A v.length h,Z O,Y G y.length D]) κ (⟨X.j.I k,l.j.I k⟩) (λT=>?_);refine TY 0 (Dr B 0) z T (TK 1 (Dr B 0) z (AT ⟨f,λw p=>by obtain⟨W,H⟩:=p;have s:=W.r.lt;go_simp⟩) T (TK 2 (Dr B 0) z (AT ⟨f,λw p=>by obtain⟨W,H⟩:=p;have s:=W.r.lt;go_simp⟩) T (TK 3 (MD m.x q) z (AT ⟨f,λw p=>by obtain⟨W,H⟩:=p;exact qg (d:=⟨m.x,C⟩) W _ z z⟩) T (TK 4 (.agg #[Z K,Y A v.length h,Z O,Y G y.length D]) z (AT ⟨f,λw p=>by obtain⟨W,H⟩:=p;exact SA 87 _ z _ 0 z _ _ H.range underlying87 z ZB⟩) T ?_))));simp only[PS];refine EU (rs:=[5,9]) κ j ?_
  refine DA z (λR n=>?_) (DA z (λR n=>?_) EQ)
  .generalize E:b.drew=y4 at k⊢
   clear E;refine LM f _ _ γ (CC.j y4 (X.j.I k).m.q (bQ.j.I k)) ?_;rintro r I ⟨P,F,E,Q,rfl,-,-,-,-,bG⟩;refine⟨_,z,?_⟩;replace k:=k.E (bG.J k.size);refine n.j _ _ (⟨X.j.I k,l.j.I k⟩) (λaD=>?_)
   try simp only[PS]
   refine TY 6 (.tuple #[MT g P F E Q,Q1 i]) z aD (TY 7 (MT g P F E Q) z aD (TY 8 (Q1 i) z aD ?_));simp only[PS];refine RD 9 z (λR n=>?_);go_simp;have aU:=k.size;obtain⟨ya,J⟩:=u (I.alloc (.cells (dK 0 0 0 0 0 0 0 0 0 0 (Y none 0 0) (Y none 0 0)) 115));rw[<-J];obtain⟨cI,zA,x⟩:=LP J.symm;have U:=x.q;replace k:=k.E (cI.J k.size);clear J x;refine n.j _ _ (⟨X.j.I k,l.j.I k⟩) (λeG=>?_)
   try simp only[PS]
   refine RD 10 z (λR n=>?_);refine VC z 115 _ _ z (I.heap.size) 0 (RU g P F E Q).toArray z z (U.there z) UH κ ?_;have x:=QF ya (I.heap.size) 0 (RU g P F E Q);have aW:=U.sets (RU g P F E Q) z;obtain⟨yz,aJ⟩:=u (ya.setCells (I.heap.size) 0 (RU g P F E Q));rw[<-aJ]at x aW;show R _ (ya.setCells (I.heap.size) 0 (RU g P F E Q));rw[<-aJ];have J:=k.E (MU x k.size (λ_ e=>by cases e;exact aU));clear aJ;refine n.j _ _ (⟨X.j.I J,l.j.I J⟩) (λcF=>?_)
   try simp only[PS]
   refine RD 11 z (λR n=>?_);go_simp;refine n.j _ _ cF (λ_=>?_)
   try simp only[PS]
   refine DN ?_;go_wp2_with fail;go_meet;exact⟨I.heap.size,_,z,z,aW,aU,J⟩
  generalize E:b.drew=y4 at k⊢
  clear E;go_simp;have aU:=k.size;obtain⟨ya,J⟩:=u (y4.alloc (.cells (dK 0 0 0 0 0 0 0 0 0 0 (Y none 0 0) (Y none 0 0)) 115));rw[<-J];obtain⟨cI,zA,x⟩:=LP J.symm;have U:=x.q;replace k:=k.E (cI.J k.size);clear J x;refine n.j _ _ (⟨X.j.I k,l.j.I k⟩) (λeH=>?_)
  try simp only[PS]
  refine RD 5 z (λR n=>?_);refine LM f _ _ γ (CC.j ya (X.j.I k).m.q (bQ.j.I k)) ?_;rintro r I ⟨P,F,E,Q,rfl,-,-,-,-,bG⟩;refine⟨_,z,?_⟩;replace k:=k.E (bG.J k.size);replace U:=U.I bG;refine n.j _ _ (⟨X.j.I k,l.j.I k⟩) (λaL=>?_)
  try simp only[PS]
  refine TY 6 (.tuple #[MT g P F E Q,Q1 i]) z aL (TY 7 (MT g P F E Q) z aL (TY 8 (Q1 i) z aL ?_));simp only[PS];refine RD 10 z (λR n=>?_);refine VC z 115 _ _ z (y4.heap.size) 0 (RU g P F E Q).toArray z z (U.there z) UH κ ?_;have x:=QF I (y4.heap.size) 0 (RU g P F E Q);have aW:=U.sets (RU g P F E Q) z;obtain⟨yz,aJ⟩:=u (I.setCells (y4.heap.size) 0 (RU g P F E Q));rw[<-aJ]at x aW;show R _ (I.setCells (y4.heap.size) 0 (RU g P F E Q));rw[<-aJ];have J:=k.E (MU x k.size (λ_ e=>by cases e;exact aU));clear aJ;refine n.j _ _ (⟨X.j.I J,l.j.I J⟩) (λcH=>?_)
  try simp only[PS]
  refine RD 11 z (λR n=>?_);go_simp;refine n.j _ _ cH (λ_=>?_)
  try simp only[PS]
  refine DN ?_;go_wp2_with fail;go_meet;exact⟨y4.heap.size,_,z,z,aW,aU,J⟩
 case rest =>
 obtain⟨XB,cs,rfl,rfl,U,eI,k⟩:=hcut
 rename World=>y5
 have n:=LE U;have s:=LE k;clear U k CC;go_upto_if 43 with fail;go_cut [] from 44 to 44 (λM=>Row M XB (Z (N:Int)::cs)/\Q3 b M)
 case first =>
  cases i with
  | true =>
   go_wp2_with fail;go_meet;exact⟨by rw[<-bT.j.1 j];exact n.j,s.j⟩
  | false =>
   have k:=n.j.y 0;have E:=n.j.A 0;have F:=n.j.lt;go_wp2_with fail;go_meet;have x:=NZ (BC y5 (some XB)) 0 (Z 9);refine⟨?_,s.j.E (MU x s.j.size (λ_ e=>by cases e;exact eI))⟩;rw[bT.j.2 j];exact n.j.set 0 j (Z 9)
 case rest =>
 obtain⟨U,k⟩:=hcut
 rename World=>E
 have bW:=LE U;have F:=LE k;clear U k n s bT;go_upto_region 11 with fail;refine WN (9) (S:=λV=>DkN V B ⟨m.x,C⟩ G3 q a2 c2/\Row V w.heap.size [Z K,Y A v.length h,Z O,Y G y.length D]) κ (⟨X.j.I (F.j.E ((@AB E.heap.size E).drew.J F.j.size)),l.j.I (F.j.E ((@AB E.heap.size E).drew.J F.j.size))⟩) (λT=>?_);refine OK 0 (Dr B 0) z T (OK 1 (Dr B 0) z T (ME 2 (Dr B 0) z (AT ⟨f,λw p=>by obtain⟨W,H⟩:=p;have s:=W.r.lt;go_simp⟩) T (ME 3 (Dr B 0) z (AT ⟨f,λw p=>by obtain⟨W,H⟩:=p;have s:=W.r.lt;go_simp⟩) T (ME 4 (MD m.x q) z (AT ⟨f,λw p=>by obtain⟨W,H⟩:=p;exact qg (d:=⟨m.x,C⟩) W _ z z⟩) T (ME 5 (.agg #[Z K,Y A v.length h,Z O,Y G y.length D]) z (AT ⟨f,λw p=>by obtain⟨W,H⟩:=p;exact SA 87 _ z _ 0 z _ _ H.range underlying87 z ZB⟩) T ?_)))))
 simp only[PS];refine OJ 6 z (λR n=>?_);have P:=(@AB E.heap.size E).drew;have k:=F.j.E (P.J F.j.size);have M:=bW.j.I P;generalize p:E.drew=y9 at P k M⊢;clear p;refine LM f _ _ γ (CD.j y9 (X.j.I k).m.q (bQ.j.I k) (eB.j.I k)) ?_;intro r z2 Q;obtain⟨p,bY⟩:=nHz (m.x.doR ⟨K,v,O,y⟩);rw[<-bY.j]at Q;obtain⟨x,rfl,J,I,F5,cY⟩:=Bl X.j k Q;refine⟨_,z,?_⟩;have dU:=(l.j.I k).I cY;replace M:=M.I cY;clear Q P CD;refine n.j _ _ (⟨J,dU⟩) (λaD=>?_)
 try simp only[PS]
 refine OJ 7 z (λR n=>?_);have P:=J.r.lt;go_simp;clear P;refine n.j _ _ aD (λ_=>?_)
 try simp only[PS]
 refine OJ 8 z (λR n=>?_);have P:=J.r.lt;go_simp;clear P;refine n.j _ _ aD (λ_=>?_)
 try simp only[PS]
 refine QZ (rs:=[9]) κ j ?_;refine AllReadyT.last z (λR n=>?_);refine VC z 47 _ _ z B 0 (NF p x).toArray z z (Row.thereMid (pre:=[]) (cs:=NF m.x q) (post:=[Y a2 C.length c2]) J.r z) NH κ ?_;have U:=M.V (QF z2 B 0 (NF p x)) (λe=>by have P:=BQ e;omega);obtain⟨w5,e⟩:=u (z2.setCells B 0 (NF p x));rw[<-e]at I F5 U;show R _ (z2.setCells B 0 (NF p x));rw[<-e];clear e M;refine n.j _ _ trivial (λ_=>?_)
 try simp only[PS]
 refine VE κ ?_ _;clear T;obtain⟨M,T⟩:=P5 dZ.j (by rw[<-aO.j];exact I) (by rw[<-aO.j];exact F5);have Q:=LE (AG M T);have e:=M.r.y 3;have l5:=M.r.lt;have x0:=U.y 0;have lx:=U.lt;clear I F5 M T J dU k U;have M:=LE (λV=>kg 9 N V d δ);have k:(y0p N).size<=9:=UT d;have zk:¬(9223372036854775807<3+(y0p N).size):=d
 have V:¬(9223372036854775807<5+(y0p N).size):=d
 have I:¬(9223372036854775804<(y0p N).size):=d
 have fC:¬(9223372036854775802<(y0p N).size):=d
 clear k;have T:Hid (cw m.x ⟨K,v,O,y⟩=(if p.up=true then ⟨#[117,112,32]⟩ else ⟨#[100,111,119,110,32]⟩)++y0p N):=LE (by rw[HN.j,bY.j];rfl);rw[T.j,<-bY.j]at HX;simp only at e
 cases hup:p.up with
 | true =>
  rw[hup]at e HX;go_wp2_with fail;refine(M.j _).J ?_;rintro r U ⟨rfl,k⟩;have J:=LE k;clear k e l5 x0 lx;go_wp2;refine AE (v:=Ow (⟨#[117,112,32]⟩++y0p N)) (by simp[results,results51,go_sem]) z ?_;rw[HX.j];exact oq Q.j.1 Q.j.2 J.j _
 | false =>
  rw[hup]at e HX;go_wp2_with fail;refine(M.j _).J ?_;rintro r U ⟨rfl,k⟩;have J:=LE k;clear k e l5 x0 lx;go_wp2;refine AE (v:=Ow (⟨#[100,111,119,110,32]⟩++y0p N)) (by simp[results,results51,go_sem]) z ?_;rw[HX.j];exact oq Q.j.1 Q.j.2 J.j _
end
section
open Tryz
open Go.RowKit nw
theorem Li{b:UInt8}{s t:Q4}(h:MO b s=[t]):t=s:=by
 by_cases a:b∈s.data.toList
 .obtain⟨p,q,e,c⟩:=List.eq_append_cons_of_mem a
  exfalso;unfold MO at h;rw[e,uf q c,FY]at h;have:=BD List.length h;simp at this;exact ud b q this
 unfold MO at h
 rw[uo a]at h;simp only[FY,JN,List.cons.injEq,and_true]at h;rw[<-h]
section
variable {d:Dk} {s f:Q4} {us:List Q4}
theorem Nv(b:MO 32 s=f::us)(a:bj (MO 32 s)=false):OX d s=QO d f us:=by
 unfold OX;rw[A (by rw[a];simp),b];rfl
theorem Q0(a:MO 32 s=f::us){t:Q4}(e:¬s=t):¬(f=t/\us.length=0):=λ⟨b,c⟩=>by
 rw[AD c,b]at a;exact e (Li a).symm
theorem Qf(h:us.length=2):QO d zLH us=dm false d (zLH::us):=by
 match us,h with
 | [k,v],_ =>
  unfold QO;rw[G z];unfold XY dm xc uj TL QQ
  cases NN k<;>cases NN v<;>simp
theorem Qw(h:us.length=1):QO d QPE us=dm true d (QPE::us):=by
 match us,h with
 | [k],_ =>
  unfold QO;rw[A δ,G z];unfold YJ dm xc uj TL QQ;simp;rfl
theorem Lc(h:us.length=1):QO d YW us=(d,if (NN (us.getD 0 empty)).isSome=true then YM d.x ((NN (us.getD 0 empty)).getD empty) else NT):=by
 match us,h with
 | [k],_ =>
  unfold QO;rw[A δ,A δ,G z];unfold YQ TL QQ;simp
  split<;>rfl
theorem Ge:OX d ai=(d,XK d.x):=rfl
theorem Jm:OX d az=(d,XR d.x):=rfl
structure LnR(f:Q4)(us:List Q4):Prop where
 h1:¬(f=zLH/\us.length=2)
 h2:¬(f=QPE/\us.length=1)
 h3:¬(f=YW/\us.length=1)
 h4:¬(f=ai/\us.length=0)
 h5:¬(f=az/\us.length=0)
theorem M8(h:LnR f us):QO d f us=if NY us=true then (if f=ew then (⟨d.x.doR ⟨5,[],0,QM us⟩,d.b⟩,YX) else if f=ZS/\us.length=2 then UR d us else if ir f=0 then (d,NT) else io (ir f) d (QM us)) else (d,NT):=by
 have b:∀k,RH k d us=if NY us=true then io k d (QM us) else (d,NT):=λk=>z
 by_cases l:f=zLH
 .subst l
  have e:QO d zLH us=XY d us:=z;rw[e];unfold XY;rw[A (λk=>h.h1 ⟨z,k.2⟩)]
  split<;>rfl
 by_cases m:f=QPE
 .subst m
  have e:QO d QPE us=YJ d us:=z;rw[e];unfold YJ;rw[A (λk=>h.h2 ⟨z,k.2⟩)]
  split<;>rfl
 by_cases k3:f=YW
 .subst k3
  have e:QO d YW us=YQ d us:=z;rw[e];unfold YQ;rw[A (λk=>h.h3 ⟨z,k.2⟩)]
  split<;>rfl
 by_cases n:f=ai
 .subst n
  have e:QO d ai us=YN d us:=z;rw[e];unfold YN;rw[A (λk=>h.h4 ⟨z,k⟩)]
  split<;>rfl
 by_cases o:f=az
 .subst o
  have e:QO d az us=YS d us:=z;rw[e];unfold YS;rw[A (λk=>h.h5 ⟨z,k⟩)]
  split<;>rfl
 by_cases c:f=ew
 .subst c
  rfl
 by_cases i:f=ZS
 .subst i
  have e:QO d ZS us=UR d us:=z;rw[e]
  by_cases a:NY us=true
  .rw[G a,A c]
   by_cases g:us.length=2
   .rw[G ⟨z,g⟩]
   rw[A (λk=>g k.2)];unfold UR;rw[A (λe=>g e.2)];rfl
  rw[A a];unfold UR;rw[A (λe=>a e.1)]
 by_cases a:NY us=true
 rotate_left
 .rw[A a]
  unfold QO;rw[A l,A m,A k3,A n,A o,A c,A i,b,b,b,b,A a,A a,A a,A a]
  split<;>(try rfl)
  split<;>(try rfl)
  split<;>(try rfl)
  split<;>rfl
 rw[G a,A c,A (λk=>i k.1)]
 have b:∀k,RH k d us=io k d (QM us):=λk=>by rw[b,G a]
 unfold QO ir;rw[A l,A m,A k3,A n,A o,A c,A i]
 by_cases j:f=fo
 .rw[G j,G j,A δ];exact b 1
 rw[A j,A j]
 by_cases k:f=em
 .rw[G k,G k,A δ];exact b 2
 rw[A k,A k]
 by_cases e:f=gq
 .rw[G e,G e,A δ];exact b 3
 rw[A e,A e]
 by_cases g:f=fj
 .rw[G g,G g,A δ];exact b 4
 rw[A g,A g,G z]
end
end
section
open Tryz
open Go.RowKit nw
theorem Kj(g:Dk)(B:Nat)(i:Nat->Prop)(q:Wp)(a:Q5)(c:Nat)(w:Q9)(j:DkN w B g i q a c)(D:MF g.x=true):Calls prog 46 #[Dr B 0] w λr s=>r=Q2 (Ow (XK g.x))/\Q3 w s:=by
 have E:=LE j;have lB:=j.r.lt;have S:=LE (af D);clear j D;have t:=LE (λs (k:DkN s B g i q a c)=>tB g.x q s k.m.q S.j);have A:=LE (λs (k:DkN s B g i q a c)=>Fu g.x q s k.m.q S.j);have x:=LE (λs (k:DkN s B g i q a c)=>Po g.x q s k.m.q S.j);have M:=LE (λ(n:Nat) (hn:n<10 ^ 9) s=>kg 9 n s hn δ);have hl:=qm g.x;have p:=nU g.x;obtain⟨C,e⟩:∃C:Nat,(ON g.x).2=(C:Int):=⟨(ON g.x).2.toNat,d⟩;obtain⟨L,m⟩:∃L:Nat,(ON g.x).1.length=L:=⟨_,z⟩;have K:Hid (ae g.x=y0p C++⟨#[32,112,97,105,114,115,32]⟩++y0p L++(if UO g.x=true then ⟨#[32,114,105,103,104,116]⟩ else ⟨#[32,119,114,111,110,103]⟩)):=LE (by unfold ae;rw[e,m];rfl);rw[e]at p;rw[m]at hl;have v:(y0p C).size<=9:=UT d;have y:(y0p L).size<=9:=UT d;have o:=LE (AG e m);have aZ:=p.2;have zk:¬(9223372036854775807<(y0p C).size+7):=d
 have I:¬(9223372036854775800<(y0p C).size):=d
 have aX:¬(9223372036854775807<(y0p C).size+7+(y0p L).size):=d
 have aY:¬(9223372036854775807<(y0p C).size+7+(y0p L).size+6):=d
 have u:=LE (AG v y);clear v y e m p;go_enter func46,ntmps46;go_upto_region 1 with fail;refine AX ?_;refine vl (Dr B 0) (vl (Dr B 0) (vl (Dr B 0) (fx E.j ?_)));simp only[PS];go_wp2_with fail;refine(t.j w E.j).J ?_;rintro r H ⟨Q,R,rfl,-,-,-,e⟩;rw[o.j.1,o.j.2];unfold LX;clear t o;go_upto_region 2 with fail;generalize J:H.alloc _=y;obtain⟨o,v,p⟩:=LP J;have t:=p.q;have m:=e.E (o.J e.size);clear J e p v o;have v:=(@AB y.heap.size y).drew;have e:=t.I v;have o:=m.E (v.J m.size);obtain⟨X,p⟩:=nMz H.heap.size;rw[<-p]at e⊢;clear v t m p;refine AN (S:=λs=>Row s X [Y Q L R]) κ (e) (λv=>?_);refine TK 0 (Z (C:Int)) z (b ⟨f,λw p=>l⟩) v (TK 3 (Dr X 0) z (b ⟨f,λw p=>by have m:=p.lt;go_simp⟩) v (TK 4 (Y Q L R) z (b ⟨f,λw p=>by have c0:=p.y 0;go_simp⟩) v (TK 5 (Z (L:Int)) z (b ⟨f,λw p=>l⟩) v ?_)))
 simp only[PS];refine RD 1 z (λN t=>?_);generalize J:y.drew=y1 at e o⊢;clear J;refine LM f _ _ l (M.j C d y1) ?_;rintro r y2 ⟨rfl,J⟩;refine⟨_,z,?_⟩;replace e:=e.I J;replace o:=o.E (J.J o.size);clear J;refine t.j _ _ (e) (λT=>?_)
 try simp only[PS]
 refine TK 2 (Ow (y0p C++⟨#[32,112,97,105,114,115,32]⟩)) z (b ⟨f,λw p=>l⟩) T ?_;simp only[PS];refine RD 6 z (λN t=>?_);refine LM f _ _ l (M.j L d y2) ?_;rintro r y3 ⟨rfl,J⟩;refine⟨_,z,?_⟩;replace e:=e.I J;replace o:=o.E (J.J o.size);clear J;refine t.j _ _ (e) (λF=>?_)
 try simp only[PS]
 refine TK 7 (Ow (y0p C++⟨#[32,112,97,105,114,115,32]⟩++y0p L)) z (b ⟨f,λw p=>l⟩) F (TK 8 (Ow (y0p C++⟨#[32,112,97,105,114,115,32]⟩++y0p L++⟨#[32,119,114,111,110,103]⟩)) z (b ⟨f,λw p=>l⟩) F ?_);simp only[PS];refine RD 9 z (λN t=>?_);go_simp;refine t.j _ _ F (λ_=>?_)
 try simp only[PS]
 refine DN ?_;clear v;have v:=LE o;have G:=LE e;clear o e;go_upto_region 3 with fail;refine AX ?_;have J:=(E.j.I v.j).r.lt;refine vl (Dr B 0) (vl (Dr B 0) (vl (Dr B 0) (fx (E.j.I v.j) ?_)));simp only[PS];go_wp2_with fail;refine(A.j _ (E.j.I v.j)).J ?_;rintro r W ⟨rfl,e⟩;have O:=LE (v.j.E (e.J v.j.size));have V:=LE (G.j.I e);obtain⟨P,o⟩:∃P,UO g.x=P:=⟨_,z⟩;rw[o]at K⊢;obtain⟨U,h⟩:=nHz (ae g.x);rw[<-h.j]at K;clear o A v e J G;go_upto_if 27 with fail;go_cut [5] from 28 to 36 (λe o=>e=Ow U/\Q3 w o)
 case first =>
  cases P with
  | true =>
   go_upto_region 4 with fail;have v:=(@AB W.heap.size W).drew;have e:=V.j.I v;have o:=O.j.E (v.J O.j.size);clear v V;refine AN (S:=λs=>Row s X [Y Q L R]) κ (e) (λv=>?_);refine TK 0 (Z (C:Int)) z (b ⟨f,λw p=>l⟩) v (TK 3 (Dr X 0) z (b ⟨f,λw p=>by have m:=p.lt;go_simp⟩) v (TK 4 (Y Q L R) z (b ⟨f,λw p=>by have c0:=p.y 0;go_simp⟩) v (TK 5 (Z (L:Int)) z (b ⟨f,λw p=>l⟩) v ?_)));simp only[PS];refine RD 1 z (λN t=>?_);generalize J:W.drew=u1 at e o⊢;clear J;refine LM f _ _ l (M.j C d u1) ?_;rintro r u2 ⟨rfl,J⟩;refine⟨_,z,?_⟩;replace e:=e.I J;replace o:=o.E (J.J o.size);clear J;refine t.j _ _ (e) (λT=>?_)
   try simp only[PS]
   refine TK 2 (Ow (y0p C++⟨#[32,112,97,105,114,115,32]⟩)) z (b ⟨f,λw p=>l⟩) T ?_;simp only[PS];refine RD 6 z (λN t=>?_);refine LM f _ _ l (M.j L d u2) ?_;rintro r u3 ⟨rfl,J⟩;refine⟨_,z,?_⟩;replace e:=e.I J;replace o:=o.E (J.J o.size);clear J;refine t.j _ _ (e) (λF=>?_)
   try simp only[PS]
   refine TK 7 (Ow (y0p C++⟨#[32,112,97,105,114,115,32]⟩++y0p L)) z (b ⟨f,λw p=>l⟩) F (TK 8 (Ow (y0p C++⟨#[32,112,97,105,114,115,32]⟩++y0p L++⟨#[32,114,105,103,104,116]⟩)) z (b ⟨f,λw p=>l⟩) F ?_);simp only[PS];refine RD 9 z (λN t=>?_);go_simp;refine t.j _ _ F (λ_=>?_)
   try simp only[PS]
   refine DN ?_;go_wp2_with fail;go_meet;exact⟨by rw[K.j];rfl,o⟩
  | false =>
   go_wp2;go_meet;exact⟨by rw[K.j];rfl,O.j⟩
 case rest =>
  obtain⟨rfl,o⟩:=hcut;have e:=LE o
  have A:U.size<=36:=by rw[K.j];simp only[AP];have:=u.j;cases P<;>(show _+7+_+6<=36;omega)
  clear o O V K zk I aX aY M u;go_upto_region 5 with fail;refine AX ?_;have J:=(E.j.I e.j).r.lt;refine vl (Dr B 0) (vl (Dr B 0) (vl (Dr B 0) (fx (E.j.I e.j) ?_)));simp only[PS];go_wp2_with fail;refine(x.j _ (E.j.I e.j)).J ?_;rintro r O ⟨rfl,v⟩;have K:=LE (e.j.E (v.J e.j.size));obtain⟨s,o⟩:=nMz (XF g.x);have p:Hid (XK g.x=if s.size=0 then U else U++⟨#[32,102,111,114,103,101,100]⟩):=LE (by rw[o,h.j];rfl);rw[<-o];clear o v e x J;have V:¬(9223372036854775807<U.size+7):=d
  have M:¬(9223372036854775800<U.size):=d
  by_cases o:s=⟨([]:List UInt8).toArray⟩
  .have J:=VR (l:=[]) o
   have v:Hid (XK g.x=U):=LE (by rw[p.j,AI (by rw[o];rfl)]);clear o p;go_wp2;refine AE (v:=Ow U) (by simp[results,results46,go_sem]) z ?_;rw[v.j];exact⟨z,K.j⟩
  have J:=VL (l:=[]) o
  have v:Hid (XK g.x=U++⟨#[32,102,111,114,103,101,100]⟩):=LE (by rw[p.j,AF (λe=>o (VT (by rw[show s.data=#[] from EW e])))]);clear o p;go_wp2;refine AE (v:=Ow (U++⟨#[32,102,111,114,103,101,100]⟩)) (by simp[results,results46,go_sem]) z ?_;rw[v.j];exact⟨z,K.j⟩
end
section
open Tryz
open Go.RowKit nw
theorem Pb(b:Dk)(B:Nat)(i:Nat->Prop)(q:Wp)(a:Q5)(c:Nat)(w:Q9)(g:DkN w B b i q a c)(R:MF b.x=true)(s:Q4)(l:s.size<=30000):Calls prog 45 #[Dr B 0,Ow s] w λr t=>r=Q2 (Ow (if (NN s).isSome=true then YM b.x ((NN s).getD empty) else NT))/\Q3 w t:=by
 have F:=LE (oS s w l);have A:=LE g;have C:=LE (mx R).2.2;have y:=LE (af R);clear g R l;obtain⟨o,k⟩:=u ((NN s).getD empty);obtain⟨ok,e⟩:=u ((NN s).isSome);rw[<-k,<-e]at F⊢;clear k e
 cases ok with
 | false =>
  go_enter func45,ntmps45;go_wp2_with fail;refine F.j.J ?_;rintro r M ⟨rfl,x⟩;have k:=LE x;clear x;go_wp2;refine H (v:=Ow NT) (by simp[results,results45,go_sem]) z ?_;exact⟨z,k.j⟩
 | true =>
  obtain⟨m,x⟩:∃m,b.x.P.length=m+1:=⟨b.x.P.length-1,by have:=C.j;omega⟩;have M:=FU (l:=b.x.P) (n:=m) d;obtain⟨n,J⟩:=u (b.x.P.getD m []);have N:n∈b.x.P:=by rw[J,show b.x.P.getD m []=b.x.P[m]' d by simp[List.getD,show m<b.x.P.length by omega]];exact M
  have E:Hid (YM b.x o=if (MJ n o).isSome=true then shO ((MJ n o).getD ⟨#[]⟩) else ⟨#[110,111,110,101]⟩):=LE (by unfold YM;rw[x,J];rfl);have h:=LE (y.j.s4 n N);have L:Hid (((MJ n o).getD ⟨#[]⟩).size<=30000):=LE (by cases e:MJ n o with|none=>exact AL|some v=>have:=mV e;show v.size<=30000;omega);have W:=LE (λt=>tK ((MJ n o).getD ⟨#[]⟩) t L.j);have U:=LE (λp c t k=>ny p n c o t k h.j.1 h.j.2);obtain⟨V,k⟩:=u ((MJ n o).getD ⟨#[]⟩);obtain⟨S,p⟩:=u ((MJ n o).isSome);rw[<-k,<-p]at U E;rw[<-k]at W;have G:(m:Int)<(m:Int)+1:=d
  have D:(0:Int)<=(m:Int):=d
  have bG:IntKind.i64.wrap (m:Int)=(m:Int):=PT _ d (by have:=y.j.l4;omega);have K:=LE x;clear M N L k p C y x;go_enter func45,ntmps45;go_wp2_with fail;refine F.j.J ?_;rintro r M ⟨rfl,x⟩;have C:=A.j.I x;obtain⟨p,y,T,pc,j,P,O,Q⟩:=C.m.q.h4.at (k:=m) (by rw[K.j];omega);have L:=C.r.y 14;rw[K.j,j]at L;rw[<-J]at O Q;have k:=(@AB M.heap.size M).drew;have X:=LE (I ((k.cell (p:=(Ki B 14)) C.r.lt).E L) (I (AC C.r.lt k.size) (I ((k.cell (p:=(Ki p (y+m))) P).E O) (AC P k.size))));have N:=LE (Q.j.I k);have f:=LE (x.E (k.J x.size));clear F x C L O Q k J j P K;go_upto_region 4 with fail;obtain⟨L,J,K,F⟩:=X.j;have x:=f.j;clear X f;refine AN (S:=λt=>t.cell? (Ki B 14)=some (Y (Hw p y) (m+1) q.cp)/\B<t.heap.size/\t.cell? (Ki p (y+m))=some (Y T n.length pc)/\p<t.heap.size) κ (⟨L,J,K,F⟩) (λk=>?_)
  refine TY 0 (Dr B 0) z k (TY 1 (Dr B 0) z k (TY 2 (Dr B 0) z k (TY 3 (Dr B 14) z k (TY 4 (Y (Hw p y) (m+1) q.cp) z k (TY 5 (Dr B 0) z k (TY 6 (Dr B 0) z k (TY 7 (Dr B 0) z k (TY 8 (Dr B 14) z k (TY 9 (Y (Hw p y) (m+1) q.cp) z k (TY 10 (Z ((m:Int)+1)) z k (TY 11 (Z (m:Int)) z k ?_)))))))))));simp only[PS];refine TY 12 (Dr p (y+m)) z k (TY 13 (.agg #[Y T n.length pc]) z k (TY 14 (Ow o) z k ?_));simp only[PS];refine RD 15 z (λO C=>?_);generalize t:M.drew=j at L J K F N x⊢;clear t;refine LM ρ _ _ γ (U.j T pc j N.j) ?_;rintro r y1 ⟨rfl,t⟩;refine⟨_,z,?_⟩;have P:=(t.cell (p:=(Ki B 14)) J).E L
  have Q:=AC J t.size;have X:=(t.cell (p:=(Ki p (y+m))) F).E K;have f:=AC F t.size;replace x:=x.E (t.J x.size);clear t N K F L J;refine C.j _ _ (⟨P,Q,X,f⟩) (λt=>?_)
  try simp only[PS]
  refine TY 16 (.tuple #[Ow V,Q1 S]) z t (TY 17 (Ow V) z t (TY 18 (Q1 S) z t ?_));simp only[PS];refine RD 19 z (λO C=>?_);go_simp;refine C.j _ _ t (λ_=>?_)
  try simp only[PS]
  refine RD 20 z (λO C=>?_);go_simp;refine C.j _ _ t (λ_=>?_)
  try simp only[PS]
  refine DN ?_;clear k P Q X f;have k:=LE x;clear x G D
  cases S with
  | true =>
   rw[AI z]at E;go_wp2_with fail;refine(W.j _).J ?_;rintro r J ⟨rfl,x⟩;have F:=LE (k.j.E (x.J k.j.size));clear x;go_wp2;refine H (v:=Ow (shO V)) (by simp[results,results45,go_sem]) z ?_;exact⟨by rw[<-E.j],F.j⟩
  | false =>
   rw[AF σ]at E;go_wp2;refine H (v:=Ow ⟨#[110,111,110,101]⟩) (by simp[results,results45,go_sem]) z ?_;exact⟨by rw[<-E.j],k.j⟩
end
section
open Tryz
open Go.RowKit nw
theorem yU{w e f:Q9}{B:Nat}{G:Nat->Prop}{r:Ending}{p:Dk×Q4}(d:Q3 w e)(h:ie e f B G r p):ie w f B G r p:=by
 obtain⟨g,⟨q,a,c,i⟩,j⟩:=h;exact⟨g,⟨q,a,c,i.J (λb l k=>k.imp_right (λk=>⟨AJ d.size k.1,k.2⟩))⟩,(SW d).E j (λb _ k=>k)⟩
theorem Fs(s:Q4)(o:Dk)(B:Nat)(F:Nat->Prop)(q:Wp)(a:Q5)(c:Nat)(w:Q9)(L:DkN w B o F q a c)(ho:o.ok 1000)(hG:∀E,F E->E<w.heap.size)(hs:s.size<=20000):Calls prog 21 #[Dr B 0,Ow s] w λr x=>ie w x B F r (OX o s):=by
 have i:=LE (show Calls prog 19 #[Ow s,.int .u8 32] w _ from qF s 32 w d);have b:=LE L;have HO:=LE ho;have HG:=LE hG
 obtain⟨C,M,U⟩:∃C M,MO 32 s=C::M:=by
  match e:MO 32 s with
  | []=>have:=rn 32 s;rw[e]at this;simp at this
  | C::M=>exact⟨C,M,z⟩
 have HZ:Hid (∀t∈C::M,t.size<=30000):=LE (λt l=>by have:=qz (b:=32) (s:=s) (t:=t) (by rw[U];exact l);omega);have eJ:M.length<=20000:=by have:=nf 32 s;rw[U]at this;simp at this;omega
 have N:Hid (bj (C::M)=false->OX o s=QO o C M):=LE (λk=>Nv U (by rw[U];exact k));have O:Hid (bj (C::M)=true->OX o s=(o,NT)):=LE (λk=>by unfold OX;rw[AI (by rw[U];exact k)]);have bV:Hid (∀t,¬s=t->¬(C=t/\M.length=0)):=LE (λt k=>Q0 U k);rw[U]at i;clear U L ho hG;go_enter func21,ntmps21;go_wp2_with fail;refine i.j.J ?_;rintro r V ⟨v,rfl,m,n⟩;obtain⟨g,j,cur,e1,cO,-,p,-⟩:=m.2.resolve_left (λk=>by have:=k.2;simp at this);subst e1;have K:=UA m;have A:=LE n;have aU:=LE K;have dZ:M.length+1<=j:=p;have lg:=K.lt;have e:=b.j.I n;have aN:=LE e;have lB:=e.r.lt;clear i m n K e cO p;simp only[BN];go_wp2_with fail;go_loopw [6] (λi wr=>∃k:Nat,k<=M.length+1/\i=Z (k:Int)/\Hid (∀J,J<k->((C::M).getD J empty).size≠0)/\wr=V) (λi _=>M.length+1-(intOf i).toNat)
 case atStart=>exact⟨0,AL,z,LE (λJ hj=>absurd hj d),z⟩
 case round =>
  obtain⟨k,m,rfl,K,e⟩:=hrel;rw[e];clear e
  by_cases p:k<M.length+1
  .obtain⟨t,l⟩:=u ((C::M).getD k empty)
   have R:V.cell? (Ki g k)=some (Ow t):=by rw[l];exact aU.j.cell k _ (by rw[FO,AO (by simpa using p)];simp[List.getD,p])
   have T:(k:Int)<(M.length:Int)+1:=d
   have S:(0:Int)<=(k:Int):=d
   by_cases n:t=⟨([]:List UInt8).toArray⟩
   .have e1:=VR (l:=[]) n
    have Q:=LE (O.j (by unfold bj;rw[List.any_eq_true];exact⟨t,by rw[l];simp[List.getD,p],by rw[n];rfl⟩));clear n l;go_wp2;refine AE (v:=Ow NT) (by simp[results,results21,go_sem]) z ?_;rw[Q.j];exact cd b.j A.j _
   have e1:=VL (l:=[]) n
   have P:Hid (((C::M).getD k empty).size≠0):=LE (λe=>n (VT (by rw[l,show((C::M).getD k empty).data=#[] from EW e])));clear n l;go_wp2;exact⟨⟨k+1,d,ν,LE (λJ hj=>by by_cases e:J=k;subst e;exact P.j;exact K.j J d),trivial⟩,by simp[intOf];omega⟩
  obtain rfl:k=M.length+1:=d
  have Q:=LE (N.j (by
   unfold bj;rw[List.any_eq_false];intro t l;obtain⟨J,hj,rfl⟩:=EM l;have:=K.j J (by simpa using hj);simp only[List.getD,AO hj,GD]at this
   simpa using this))
  clear K m p N O;have c0:=aU.j.y 0;have cY:Hid (Strs V (Hw g 0) (C::M)):=LE (.inr ⟨g,0,z,lg,λi h=>by rw[BK];exact aU.j.cell i _ (by rw[FO,AO h];simp[List.getD,AO h])⟩);have eH:(0:Int)<(M.length:Int)+1:=d
  go_upto_region 7 with fail;obtain⟨C1,K⟩:=nHz (decide ((C=zLH/\M.length=2)\/(C=QPE/\M.length=1)));go_cut [43] from 24 to 43 (λH U=>H=Q1 C1/\U=V)
  case first =>
   by_cases m:C=zLH
   .have e1:=VR (l:=[112,117,116]) m
    have p:¬C=QPE:=λe=>by rw[m]at e;exact absurd e δ
    have e2:=VL (l:=[100,101,108]) p
    by_cases P:M.length=2
    .have e3:((M.length:Int)+1 == 3)=true:=by rw[P];rfl
     have n:=K.j;rw[AM (AT ⟨m,P⟩)]at n;clear m p P;go_wp2;go_meet;exact⟨by rw[n],z⟩
    have e3:((M.length:Int)+1 == 3)=false:=BL.2 d
    have n:=K.j;rw[AH (λk=>by rcases k with k|k;exact P k.2;exact p k.1)]at n;clear m p P;go_wp2;go_meet;exact⟨by rw[n],z⟩
   have e1:=VL (l:=[112,117,116]) m
   by_cases W:C=QPE
   .have e2:=VR (l:=[100,101,108]) W
    by_cases P:M.length=1
    .have e3:((M.length:Int)+1 == 2)=true:=by rw[P];rfl
     have n:=K.j;rw[AM (IT ⟨W,P⟩)]at n;clear m W P;go_wp2;go_meet;exact⟨by rw[n],z⟩
    have e3:((M.length:Int)+1 == 2)=false:=BL.2 d
    have n:=K.j;rw[AH (λk=>by rcases k with k|k;exact m k.1;exact P k.2)]at n;clear m W P;go_wp2;go_meet;exact⟨by rw[n],z⟩
   have e2:=VL (l:=[100,101,108]) W
   have n:=K.j;rw[AH (λk=>by rcases k with k|k;exact m k.1;exact W k.1)]at n;clear m W;go_wp2;go_meet;exact⟨by rw[n],z⟩
  case rest =>
  obtain⟨rfl,m⟩:=hcut;rw[m];clear m;rw[K.j];clear K
  by_cases K:(C=zLH/\M.length=2)\/(C=QPE/\M.length=1)
  .rw[AM K]
   obtain⟨N,O,p,n⟩:∃N,(C::M).length=(if N=true then 2 else 3)/\((C::M).getD 0 empty=QPE<->N=true)/\QO o C M=dm N o (C::M):=by
    rcases K with ⟨m,W⟩|⟨m,W⟩
    .subst m;exact⟨false,by simp[W],⟨λe=>absurd (show zLH=QPE from e) δ,λe=>by cases e⟩,Qf W⟩
    subst m;exact⟨true,by simp[W],⟨λ_=>z,λ_=>z⟩,Qw W⟩
   have W:=LE (show Calls prog 44 #[Dr B 0,Y (Hw g 0) (M.length+1) j] V _ from Og N o B F q a c (Hw g 0) (C::M) j V aN.j HO.j.l cY.j O p HZ.j);rw[n]at Q;clear K O p n;go_wp2_with fail;refine W.j.J ?_;intro r w2 m;obtain⟨rfl,-⟩:=id m;have O:=LE m;obtain⟨p,n⟩:=u (dm N o (C::M));rw[<-n]at Q O⊢;clear W m n;go_wp2;refine AE (v:=Ow p.2) (by simp[results,results21,go_sem]) z ?_;rw[Q.j];exact yU A.j O.j
  rw[AH K];have bR:=LE K;clear K;go_upto_region 9 with fail;obtain⟨C2,e⟩:=nHz (decide (C=YW/\M.length=1));go_cut [55] from 47 to 55 (λH U=>H=Q1 C2/\U=V)
  case first =>
   by_cases m:C=YW
   .have e1:=VR (l:=[103,101,116]) m
    by_cases P:M.length=1
    .have e3:((M.length:Int)+1 == 2)=true:=by rw[P];rfl
     have n:=e.j;rw[AM (AG m P)]at n;clear m P;go_wp2;go_meet;exact⟨by rw[n],z⟩
    have e3:((M.length:Int)+1 == 2)=false:=BL.2 d
    have n:=e.j;rw[AH (λk=>P k.2)]at n;clear m P;go_wp2;go_meet;exact⟨by rw[n],z⟩
   have e1:=VL (l:=[103,101,116]) m
   have n:=e.j;rw[AH (λk=>m k.1)]at n;clear m;go_wp2;go_meet;exact⟨by rw[n],z⟩
  case rest =>
  obtain⟨rfl,m⟩:=hcut;rw[m,e.j];clear m e
  by_cases e:C=YW/\M.length=1
  .rw[AM e]
   have p:=LE (Pb o B F q a c V aN.j HO.j.w (M.getD 0 empty) (oI (λt l=>HZ.j t (DK _ l)) 0));have P:Hid (OX o s=(o,if (NN (M.getD 0 empty)).isSome=true then YM o.x ((NN (M.getD 0 empty)).getD empty) else NT)):=LE (by rw[Q.j,e.1,Lc e.2]);have N:V.cell? (Ki g 1)=some (Ow (M.getD 0 empty)):=aU.j.cell 1 _ (by match M,e.2 with | [K],_=>rfl);have O:(1:Int)<(M.length:Int)+1:=d
   obtain⟨n,m⟩:=u (if (NN (M.getD 0 empty)).isSome=true then YM o.x ((NN (M.getD 0 empty)).getD empty) else NT);rw[<-m]at p P;clear e m;go_wp2_with fail;refine p.j.J ?_;rintro r w2 ⟨rfl,f⟩;have aJ:=LE (A.j.E (f.J A.j.size));clear p f;go_wp2;refine AE (v:=Ow n) (by simp[results,results21,go_sem]) z ?_;rw[P.j];exact cd b.j aJ.j _
  rw[AH e];have cC:=LE e;clear e
  by_cases hF:s=ai
  .have e1:=VR (l:=[102,111,117,110,100]) hF
   have P:Hid (OX o s=(o,XK o.x)):=LE (by rw[hF];exact Ge);have e:=LE (Kj o B F q a c V aN.j HO.j.w);obtain⟨n,m⟩:=u (XK o.x);rw[<-m]at e P;clear hF m;go_wp2_with fail;refine e.j.J ?_;rintro r w2 ⟨rfl,f⟩;have aJ:=LE (A.j.E (f.J A.j.size));clear e f;go_wp2;refine AE (v:=Ow n) (by simp[results,results21,go_sem]) z ?_;rw[P.j];exact cd b.j aJ.j _
  have e1:=VL (l:=[102,111,117,110,100]) hF
  by_cases R:s=az
  .have e2:=VR (l:=[114,111,111,109]) R
   have P:Hid (OX o s=(o,XR o.x)):=LE (by rw[R];exact Jm);clear hF R;have T:=aN.j.r.y 3
   cases hup:o.x.up with
   | false =>
    have f:Hid (XR o.x=YX):=LE (by unfold XR;rw[hup];rfl);rw[hup]at T;clear hup;go_wp2;refine AE (v:=Ow YX) (by simp[results,results21,go_sem]) z ?_;rw[P.j,f.j];exact cd b.j A.j _
   | true =>
    rw[hup]at T;obtain⟨hU,hS,D⟩:=xI HO.j.w hup;obtain⟨e,N⟩:∃e:Nat,o.x.U=(e:Int):=⟨o.x.U.toNat,d⟩;obtain⟨m,p⟩:∃m:Nat,hv o.x.S=(m:Int):=⟨(hv o.x.S).toNat,d⟩;have f:Hid (XR o.x=y0p e++⟨#[32,111,102,32]⟩++y0p m):=LE (by rw[D,N,p];rfl);rw[N]at hU;rw[p]at hS;have CI:=LE (λ(n:Nat) (O:n<10 ^ 9) x=>kg 9 n x O δ);have W:=LE (λx=>ZA o.x.S x);rw[p]at W;have I:(y0p e).size<=9:=UT d;have G:(y0p m).size<=9:=UT d;have zk:¬(9223372036854775807<(y0p e).size+4):=d
    have dQ:¬(9223372036854775803<(y0p e).size):=d
    have dR:¬(9223372036854775807<(y0p e).size+4+(y0p m).size):=d
    have S:=aN.j.r.y 11;rw[N]at S;have X:=LE (AG S (AG (aN.j.r.y 5) lB));clear hup D p N I G S;go_upto_region 16 with fail;have S:=(@AB V.heap.size V).drew;have p:=AG ((S.cell (p:=(Ki B 11)) X.j.2.2).E X.j.1) (AG ((S.cell (p:=(Ki B 5)) X.j.2.2).E X.j.2.1) (AC X.j.2.2 S.size));have N:=A.j.E (S.J A.j.size);clear S T;refine AN (S:=λx=>x.cell? (Ki B 11)=some (Z (e:Int))/\x.cell? (Ki B 5)=some (Z o.x.S)/\B<x.heap.size) κ (p) (λS=>?_);refine TY 0 (Dr B 0) z S (TY 1 (Dr B 0) z S (TY 2 (Dr B 0) z S (TY 3 (Dr B 4) z S (TY 4 (Dr B 11) z S (TY 5 (Z (e:Int)) z S (TY 8 (Dr B 0) z S (TY 9 (Dr B 0) z S (TY 10 (Dr B 0) z S (TY 11 (Dr B 4) z S (TY 12 (Dr B 5) z S (TY 13 (Z o.x.S) z S ?_)))))))))))
    simp only[PS];refine RD 6 z (λI T=>?_);generalize G:V.drew=y1 at p N⊢;clear G;refine LM ρ _ _ γ (CI.j e d y1) ?_;rintro r G ⟨rfl,D⟩;refine⟨_,z,?_⟩;replace p:=AG ((D.cell (p:=(Ki B 11)) p.2.2).E p.1) (AG ((D.cell (p:=(Ki B 5)) p.2.2).E p.2.1) (AC p.2.2 D.size));replace N:=N.E (D.J N.size);clear D;refine T.j _ _ (p) (λaP=>?_)
    try simp only[PS]
    refine TY 7 (Ow (y0p e++⟨#[32,111,102,32]⟩)) z aP ?_;simp only[PS];refine RD 14 z (λI T=>?_);refine LM ρ _ _ γ (W.j G) ?_;rintro r y3 ⟨rfl,rfl⟩;refine⟨_,z,?_⟩;refine T.j _ _ aP (λ_=>?_)
    try simp only[PS]
    refine RD 15 z (λI T=>?_);refine LM ρ _ _ γ (CI.j m d y3) ?_;rintro r y4 ⟨rfl,D⟩;refine⟨_,z,?_⟩;replace p:=AG ((D.cell (p:=(Ki B 11)) p.2.2).E p.1) (AG ((D.cell (p:=(Ki B 5)) p.2.2).E p.2.1) (AC p.2.2 D.size));replace N:=N.E (D.J N.size);clear D;refine T.j _ _ (p) (λD=>?_)
    try simp only[PS]
    refine TY 16 (Ow (y0p e++⟨#[32,111,102,32]⟩++y0p m)) z D ?_;simp only[PS];refine RD 17 z (λI T=>?_);go_simp;refine T.j _ _ D (λ_=>?_)
    try simp only[PS]
    refine DN ?_;clear S;have S:=LE N;clear N p zk dQ dR;go_wp2;refine AE (v:=Ow (y0p e++⟨#[32,111,102,32]⟩++y0p m)) (by simp[results,results21,go_sem]) z ?_;rw[P.j,f.j];exact cd b.j S.j _
  have e2:=VL (l:=[114,111,111,109]) R;have e:LnR C M:=⟨λk=>bR.j (.inl k),λk=>bR.j (.inr k),cC.j,bV.j _ hF,bV.j _ R⟩;rw[M8 e]at Q;clear e bR cC bV hF R;obtain⟨PF,e⟩:∃p,(if j=1 then some ((Ki g 0):Addr) else Hw g 1)=p:=⟨_,z⟩
  have m:Strs V PF M:=by
   by_cases n:j=1
   .exact .inl (AD d)
   exact .inr ⟨g,1,by rw[<-e,AF n],lg,λi h=>by rw[Nat.add_comm];exact aU.j.cell (i+1) _ (by rw[FY,List.getElem?_cons_succ,FO,AO h];simp[List.getD,AO h])⟩
  have CN:=LE (Pl PF M (j-1) V m d (λt l=>HZ.j t (DK _ l)));have N:(1:Int)<=(M.length:Int)+1:=d
  have n:(M.length:Int)+1<=(j:Int):=d
  clear m;go_wp2_with fail;refine CN.j.J ?_;rintro r w2 ⟨v,rfl,i,f⟩;have aJ:=LE (A.j.E (f.J A.j.size));have eK:=AC lB f.size;have eL:=AC lg f.size;have dU:=(f.cell (p:=(Ki g 0)) lg).E c0;have bT:=LE (aN.j.I f);clear CN N n e
  cases O:NY M with
  | false =>
   rw[O]at Q;rw[AF σ]at Q;clear O i f;go_wp2;refine AE (v:=Ow NT) (by simp[results,results21,go_sem]) z ?_;rw[Q.j];exact cd b.j aJ.j _
  | true =>
  rw[O,AI z]at Q;replace i:=i O;have m:=uc M;obtain⟨h,bF⟩:=u (QM M);have HD:Hid (UR o M=if M.length=2 then (if nwOk (h.getD 0 0) (h.getD 1 0) then (⟨US (h.getD 0 0) (h.getD 1 0),o.b⟩,⟨#[111,107]⟩) else (o,⟨#[110,111]⟩)) else (o,NT)):=LE (by unfold UR;rw[bF];by_cases P:M.length=2;rw[AI ⟨O,P⟩,AI P];rw[AF (λk=>P k.2),AF P]);rw[<-bF]at Q i m;obtain⟨fa,fc,e⟩:=YC i;rw[<-m]at e i;subst e;have HN:=LE i;have HI:=LE (xP z i)
  have n:∀E,(Y fa h.length fc).ownBlock=some E->¬F E:=λE k e=>by have:=(SU i k).1;have:=HG.j E e;have:=A.j.size;omega
  have cE:=LE n;have dL:h.length<=20000:=d
  have bU:=LE m;clear O bF i n m
  by_cases n:C=ew
  .have e3:=VR (l:=[112,111,119,101,114]) n
   rw[AI n]at Q
   have O:=LE (zV o.x q ⟨5,[],0,h⟩ none 0 fa fc w2 bT.j.m.q (af HO.j.w) (.inl z) HI.j ⟨⟨σ,λK i=>by cases i⟩,by simp only;omega⟩)
   clear n;go_upto_region 21 with fail;refine AX ?_;refine vl (Dr B 0) (vl (Dr B 0) (vl (Dr B 0) (vl (Dr B 0) (fx bT.j ?_))));simp only[PS];go_wp2_with fail;refine O.j.J ?_;intro r T S;obtain⟨R,rfl,m,i,N,X⟩:=Bl b.j aJ.j S;clear S O
   try simp only[PS]
   refine‹∀(a:Act) (w:Q9),wpList _ _ _ _ a w->_› _ _ ?_
   have W:=m.r.lt;refine vl (Dr B 0) (vl (Dr B 0) (um m (y:=o.x.doR ⟨5,[],0,h⟩) (q':=R) ?_));obtain⟨D,O⟩:=u (T.setCells B 0 (NF (o.x.doR ⟨5,[],0,h⟩) R));rw[<-O]at i N⊢;have S:=LE (AG i N);clear m i N O W
   try go_wp2
   refine AE (v:=Ow YX) (by simp[results,results21,go_sem]) z ?_;rw[Q.j];exact oq S.j.1 S.j.2 AB _
  have e3:=VL (l:=[112,111,119,101,114]) n;rw[AF n]at Q;clear n;go_upto_region 23 with fail;rw[bU.j];obtain⟨C3,D⟩:=nHz (decide (C=ZS/\M.length=2));go_cut [120] from 112 to 120 (λH U=>H=Q1 C3/\U=w2)
  case first =>
   by_cases m:C=ZS
   .have e1:=VR (l:=[100,105,115,107]) m
    by_cases P:M.length=2
    .have e3:((M.length:Int) == 2)=true:=by rw[P];rfl
     have n:=D.j;rw[AM (AG m P)]at n;clear m P;go_wp2;go_meet;exact⟨by rw[n],z⟩
    have e3:((M.length:Int) == 2)=false:=BL.2 d
    have n:=D.j;rw[AH (λk=>P k.2)]at n;clear m P;go_wp2;go_meet;exact⟨by rw[n],z⟩
   have e1:=VL (l:=[100,105,115,107]) m
   have n:=D.j;rw[AH (λk=>m k.1)]at n;clear m;go_wp2;go_meet;exact⟨by rw[n],z⟩
  case rest =>
  obtain⟨rfl,m⟩:=hcut;rw[m,D.j];clear m D
  by_cases D:C=ZS/\M.length=2
  .rw[AM D]
   rw[AI D,HD.j,AI D.2]at Q
   obtain⟨n,O,bF⟩:∃n O,h=[n,O]:=by
    match h,bU.j.E D.2 with
    | [K,y],_=>exact⟨K,y,z⟩
   subst bF;obtain⟨g2,cT,i,cO,eB,m⟩:=(MS HN.j).resolve_left (λk=>by have:=k.2;simp at this)
   obtain rfl:fa=Hw g2 0:=by cases i;rfl
   have aV:=LE m;have CN:=LE (λx=>show Calls prog 20 #[Z n,Z O] x λe V=>mi x V e (NU n O) from(nw_s n O x).J (λe V k=>uu k));rw[D.2];clear i D m cE;go_upto_region 24 with fail;go_cut [9] from 121 to 127 (λi U=>∃X R,i=Dr X 0/\Row U X (NF (NU n O) R)/\DepF U (λE=>w.heap.size<=E/\E<U.heap.size) (λW=>(NU n O).at W R)/\(NU n O).rs.length<=R.cs/\Q3 w U)
   case first =>
    have S:=(@AB w2.heap.size w2).drew;have K:=aV.j.I S;have N:=aJ.j.E (S.J aJ.j.size);clear S aV;refine WN (8) (S:=λx=>Row x g2 [Z n,Z O]) κ (K) (λS=>?_);refine ME 0 (Y (Hw g2 0) 2 fc) z (AT ⟨ρ,λw U=>γ⟩) S (ME 1 (Dr g2 0) z (AT ⟨ρ,λw U=>by have i:=U.lt;go_simp⟩) S (ME 2 (Z n) z (AT ⟨ρ,λw U=>by have c0:=U.y 0;go_simp⟩) S (ME 3 (Y (Hw g2 0) 2 fc) z (AT ⟨ρ,λw U=>γ⟩) S (ME 4 (Dr g2 1) z (AT ⟨ρ,λw U=>by have i:=U.lt;go_simp⟩) S (ME 5 (Z O) z (AT ⟨ρ,λw U=>by have c0:=U.y 1;go_simp⟩) S ?_)))));simp only[PS];refine QZ (rs:=[6,7]) κ σ ?_;refine AllReadyT.cons z (λI T=>?_) (AllReadyT.cons z (λI T=>?_) AllReadyT.nil)
    .generalize G:w2.drew=y0 at K N⊢
     clear G;have dM:=N.size;refine LM ρ _ _ γ (CN.j y0) ?_;rintro r yc ⟨R,rfl,hW,cA,aM⟩;refine⟨_,z,?_⟩;have dN:=aM.size;replace K:=K.I aM;replace N:=N.E (aM.J N.size);refine T.j _ _ (K) (λaP=>?_)
     try simp only[PS]
     refine OJ 7 z (λI T=>?_);go_simp;obtain⟨ya,m⟩:=u (yc.alloc (.cells #[Z 0,Y none 0 0,Y none 0 0,Q1 false,Z 0,Z 0,Z 0,Z 0,Z 0,Z 0,Z 0,Z 0,Z 0,Y none 0 0,Y none 0 0,Y none 0 0] 47));rw[<-m];obtain⟨aS,zA,W⟩:=LP m.symm;have H:=W.q;replace K:=K.I aS;replace N:=N.E (aS.J N.size);replace hW:=hW.I aS;clear m W;refine T.j _ _ (K) (λcV=>?_)
     try simp only[PS]
     refine QZ (rs:=[8]) κ σ ?_;refine AllReadyT.last z (λI T=>?_);refine VC z 47 _ _ z (yc.heap.size) 0 (NF (NU n O) R).toArray z z (H.there z) NH κ ?_;have hs:=QF ya (yc.heap.size) 0 (NF (NU n O) R);have bH:=H.sets (NF (NU n O) R) z;obtain⟨yz,G⟩:=u (ya.setCells (yc.heap.size) 0 (NF (NU n O) R));rw[<-G]at hs bH;show I _ (ya.setCells (yc.heap.size) 0 (NF (NU n O) R));rw[<-G];have dH:=N.size;have bY:=hW.V hs (λg e k=>by have m:=k.1;have W:=k.2;cases e;omega);have bW:=N.E (MU hs d (λ_ e=>by cases e;omega));have zz:yz.heap.size=ya.heap.size:=by rw[G];exact UV _ _ _ _
     clear G;refine T.j _ _ trivial (λ_=>?_)
     try simp only[PS]
     refine VE κ ?_ _;go_wp2_with fail;go_meet;exact⟨yc.heap.size,R,z,bH,bY.J (λE i k=>⟨by have m:=k.1;omega,i⟩),cA,bW⟩
    generalize G:w2.drew=y0 at K N⊢
    clear G;have dM:=N.size;go_simp;obtain⟨ya,m⟩:=u (y0.alloc (.cells #[Z 0,Y none 0 0,Y none 0 0,Q1 false,Z 0,Z 0,Z 0,Z 0,Z 0,Z 0,Z 0,Z 0,Z 0,Y none 0 0,Y none 0 0,Y none 0 0] 47));rw[<-m];obtain⟨aS,zA,W⟩:=LP m.symm;have H:=W.q;replace K:=K.I aS;replace N:=N.E (aS.J N.size);clear m W;refine T.j _ _ (K) (λcW=>?_)
    try simp only[PS]
    refine OJ 6 z (λI T=>?_);refine LM ρ _ _ γ (CN.j ya) ?_;rintro r yc ⟨R,rfl,hW,cA,aM⟩;refine⟨_,z,?_⟩;have dN:=aM.size;replace K:=K.I aM;replace N:=N.E (aM.J N.size);replace H:=H.I aM;refine T.j _ _ (K) (λcX=>?_)
    try simp only[PS]
    refine QZ (rs:=[8]) κ σ ?_;refine AllReadyT.last z (λI T=>?_);refine VC z 47 _ _ z (y0.heap.size) 0 (NF (NU n O) R).toArray z z (H.there z) NH κ ?_;have hs:=QF yc (y0.heap.size) 0 (NF (NU n O) R);have bH:=H.sets (NF (NU n O) R) z;obtain⟨yz,G⟩:=u (yc.setCells (y0.heap.size) 0 (NF (NU n O) R));rw[<-G]at hs bH;show I _ (yc.setCells (y0.heap.size) 0 (NF (NU n O) R));rw[<-G];have dH:=N.size;have bY:=hW.V hs (λg e k=>by have m:=k.1;have W:=k.2;cases e;omega);have bW:=N.E (MU hs d (λ_ e=>by cases e;omega));have zz:yz.heap.size=yc.heap.size:=by rw[G];exact UV _ _ _ _
    clear G;refine T.j _ _ trivial (λ_=>?_)
    try simp only[PS]
    refine VE κ ?_ _;go_wp2_with fail;go_meet;exact⟨y0.heap.size,R,z,bH,bY.J (λE i k=>⟨by have m:=k.1;omega,i⟩),cA,bW⟩
   case rest =>
    obtain⟨X,R,rfl,H,hW,-,i⟩:=hcut
    rename World=>w6
    have T:=LE H;have U:=LE hW;have W:=LE i;have K:=H.y 14;have lX:=H.lt;have I:=(b.j.I i).r.lt;clear H hW i CN
    by_cases m:nwOk n O
    .rw[AI (show nwOk ([n,O].getD 0 0) ([n,O].getD 1 0) from m)]at Q
     have i:Hid (NU n O=US n O):=LE (by unfold NU;rw[AI m]);rw[i.j]at T U K;clear m i;simp only[US,BN,AU]at K;go_upto_region 27 with fail;refine AX ?_;refine vl (Dr B 0) (BE z 47 _ z X 0 z _ _ T.j.range underlying47 z NH ?_);simp only[PS];refine vl (Dr B 0) (vl (Dr B 0) (um (b.j.I W.j) (y:=US n O) (q':=R) ?_));obtain⟨i,N⟩:=b.j.world W.j U.j;obtain⟨H,G⟩:=u (w6.setCells B 0 (NF (US n O) R));rw[<-G]at i N⊢;have S:=LE (AG i N);clear G i N T U W I K lX
     try go_wp2
     refine AE (v:=Ow ⟨#[111,107]⟩) (by simp[results,results21,go_sem]) z ?_;rw[Q.j];exact oq S.j.1 S.j.2 AB _
    rw[AF (show ¬nwOk ([n,O].getD 0 0) ([n,O].getD 1 0) from m)]at Q
    rw[show NU n O=pV by unfold NU;rw[AF m]]at K;simp only[pV,AU]at K;clear m T U;go_wp2;refine AE (v:=Ow ⟨#[110,111]⟩) (by simp[results,results21,go_sem]) z ?_;rw[Q.j];exact cd b.j W.j _
  rw[AH D];rw[AF D]at Q;clear D HD;have i:=LE (λx=>Cl C x);obtain⟨K,m⟩:=u (ir C);have n:K=0\/(1<=K/\K<=4):=by rw[m];unfold ir;split;exact .inr δ;split;exact .inr δ;split;exact .inr δ;split;exact .inr δ;exact .inl z
  rw[<-m]at Q i;clear m;go_wp2_with fail;refine(i.j w2).J ?_;rintro r m ⟨rfl,G⟩;rw[G];clear G m i
  by_cases i:K=0
  .subst i
   rw[AI z]at Q;go_wp2;refine AE (v:=Ow NT) (by simp[results,results21,go_sem]) z ?_;rw[Q.j];exact cd b.j aJ.j _
  rw[AF i]at Q
  have R:(K == 0)=false:=BL.2 i;have N:=LE (Hy K h fa fc _ o B F q a c w2 bT.j HO.j (λE k=>AC (HG.j E k) aJ.j.size) HN.j cE.j d (n.resolve_left i));clear i n;obtain⟨p,n⟩:=u (io K o h);rw[<-n]at Q N;clear n;rw[<-bU.j];go_wp2_with fail;refine N.j.J ?_;intro r T m;obtain⟨rfl,-⟩:=id m;have O:=LE m;clear N m;go_wp2;refine AE (v:=Ow p.2) (by simp[results,results21,go_sem]) z ?_;rw[Q.j];exact yU aJ.j O.j
end
section
open Tryz
open Go.RowKit nw
theorem Ab(s:Q4):Lib.strCells s=s.data.toList.map uv:=by simp[Lib.strCells,uv]
theorem xA{P:Program}(w:Q9)(a:Nat)(t u l e:TypeId)(i:TypeInfo)(v:P.underlying t=some (.slice e))(x:P.underlying u=some .string)(r:P.info? e=some i)(C:i.zero=some (.int .u8 0))
  (o:i.size=1)(y:i.bytes=1)(g n b:Nat)(c:List Ra)(f:w.ownsRow a e 1 (Y (Hw g 0) n b) n c)(s:Q4)(L:n+s.size<=1048576)(D:a<=w.heap.size):∃h j m,(Builtin.append_ #[t,u] l #[Y (Hw g 0) n b,Ow s]).run P w=.ok (Y (Hw h 0) (n+s.size) j) m/\m.ownsRow a e 1 (Y (Hw h 0) (n+s.size) j) (n+s.size) (c++Lib.strCells s)/\w.grownBy m (some g)/\(h=g\/h=w.heap.size):=by
 obtain⟨S,m,h,A,B,_⟩:=Lib.run_append_own_string (P:=P) w a t u l e i v x r C o y _ n c f s (by unfold maxLen;omega) d D;rcases f.2 with ⟨k,_⟩|⟨R,K,p,H,M,I,Q,N,O,J⟩
 .cases k
 cases H
 by_cases F:n+s.size<=b
 .have j:=Lib.run_append_room_string (P:=P) w t u l e i v x r o g n b p I s F d
  have q:=h.symm.E j
  cases q
  exact⟨g,b,_,h,A,B,.inl z⟩
 have G:c.length=n:=by simpa using f.1
 have E:∀j u,c[j]?=some u->w.cell? (((Ki g 0):Addr).add j)=some u:=f.cells (g:=g) z;have j:=Lib.run_append_grow_string (P:=P) w t u l e i (.int .u8 0) v x r C (Ki g 0) n b c (by rw[o];simpa using G) E s d d (by rw[y];exact growslice_fits d d);have q:=h.symm.E j
 cases q
 exact⟨w.heap.size,_,_,h,A,B,.inr z⟩
theorem vO{P:Program}{c:Array Oper}{b:List Oper}{o:Oper}{a:Act}{w:Q9}{Q:Exit->Act->Q9->Prop}(g:o.guard=none)(d x:Operand)(t u:TypeId)
  (j:o.op=.call { callee:=.builtin .append,args:=#[d,x],argTypes:=#[t,u] }){y z:Ra}(l:a.eval d=y)(m:a.eval x=z)(e:Ra)(f:Q9)
  (k:(Builtin.append_ #[t,u] o.type #[y,z]).run P w=.ok e f)(h:wpList P c Q b (a.put o.dst e) f):wpList P c Q (o::b) a w:=by
 refine IG g λK i=>?_
 unfold Oper.wp execOp;simp only[j,resolve,invoke,builtin,IF,IZ,IE,List.map_toArray,FY,JN,l,m,k];exact i _ _ h
theorem Fr.b0{w a:Q9}{G:Nat->Prop}(h:Fr w a G):Below 0 w a:=⟨h.os,h.tape,h.output,h.size,λb c=>absurd c ω⟩
theorem uS{u j:Q9}{B:Nat}{f:Dk}{G:Nat->Prop}{q:Wp}{a:Q5}{c o:Nat}(h:DkN u B f G q a c)(g:u.grownBy j (some o))(k:¬G o):DkN j B f G q a c:=h.step ⟨g.os,g.tape,g.output,g.size,λb i=>absurd i d⟩ (λb i l=>g.block b l (λe=>k (by cases e;exact i)))
def PY:Dk:=⟨US 40 8,[]⟩
theorem pB:PY.ok 0:=⟨tr δ,C,λc a=>by cases a⟩
structure SsN(w wr:Q9)(B g:Nat)(ls:List Q4)(k:Nat)(og oc:Nat)(G:Nat->Prop)(q:Wp)(a:Q5)(c:Nat):Prop where
 D:DkN wr B (UU PY (ls.take k)) G q a c
 gs:∀b,G b->b<wr.heap.size
 gl:∀b,G b->w.heap.size<=b
 gg:¬G g
 go:¬G og
 o:wr.ownsRow (B+1) 5 1 (Y (Hw og 0) (SQ PY (ls.take k)).length oc) (SQ PY (ls.take k)).length ((SQ PY (ls.take k)).map uv)
 r:Row wr g (ls.map Value.string)
 b:Q3 w wr
def Fg(w wr:Q9)(B g:Nat)(b:List Q4)(k:Nat)(f:Ra):Prop:=∃e d G q a c,f=Y (Hw e 0) (SQ PY (b.take k)).length d/\SsN w wr B g b k e d G q a c
theorem tz{a:List Q4}(c:a.length<=400)(b:∀s∈a,s.size<=20000):∀k,(SQ PY (a.take k)).length<=301*k
 | 0=>C
 | k+1=>by
  by_cases g:k<a.length
  .have e:a.take (k+1)=a.take k++[a[k]]:=by rw[List.take_add_one,AO g];rfl
   have f:=tz c b k;have i:=nP ((rj (a.take k) PY 0 pB (λs k=>b s (DR k))).J (m:=1000) (by rw[AZ];omega)) C a[k];rw[e,xa,AK,AK];have h:(OX (UU PY (a.take k)) a[k]).2.data.toList.length=(OX (UU PY (a.take k)) a[k]).2.size:=z;simp only[EJ];omega
  have f:=tz c b k
  rw[show a.take (k+1)=a.take k by rw[AS d,AS d]];omega
end
section
open Tryz
open Go.RowKit Go.Shelf nw
theorem If{P:Program}(w:Q9)(a:Nat)(t u j e:TypeId)(i:TypeInfo)(A:P.underlying t=some (.slice e))(B:P.underlying u=some .string)(y:P.info? e=some i)(C:i.zero=some (.int .u8 0))
  (E:i.size=1)(o:i.bytes=1)(v:Ra)(n:Nat)(l:List Ra)(m:w.ownsRow a e 1 v n l)(s:Q4)(F:n+s.size<=1048576)(D:a<=w.heap.size):∃f b,(Builtin.append_ #[t,u] j #[v,Ow s]).run P w=.ok f b/\b.ownsRow a e 1 f (n+s.size) (l++Lib.strCells s)/\w.grownBy b v.ownBlock/\(∀k,f.ownBlock=some k->v.ownBlock=some k\/k=w.heap.size):=by
 rcases m.2 with ⟨rfl,rfl⟩|⟨g,p,H,rfl,_⟩
 .obtain⟨f,b,h,q,r,x⟩:=Lib.run_append_own_string (P:=P) w a t u j e i A B y C E o _ 0 l m s (by unfold maxLen;omega) d D
  refine⟨f,b,h,q,r,λk c=>.inr ?_⟩
  by_cases J:s.size=0
  .rw[x.2 ⟨z,J⟩]at c;cases c
  have G:=run_append_nil_string (P:=P) w t u j e i (.int .u8 0) A B y C s d d (by rw[o];omega)
  have I:=h.symm.E G
  cases I
  cases c
  rfl
 obtain⟨G,f,b,h,q,r,x⟩:=xA w a t u j e i A B y C E o g n p l m s F D
 exact⟨_,b,h,q,r,λk c=>by cases c;exact x.imp (λe=>by rw[e];rfl) id⟩
structure Bd(w:Q9)(b:Nat)(p v:Ra)(D:List UInt8):Prop where
 hb:w.heap[b]?=some (.cells #[p,v] 56 (0,0))
 o:w.ownsRow (b+1) 5 1 v D.length (D.map uv)
section
variable {w w':Q9} {b:Nat} {p v:Ra} {D:List UInt8}
theorem Bd.lt(h:Bd w b p v D):b<w.heap.size:=(AR.1 h.hb).1
theorem Bd.row(h:Bd w b p v D):Row w b [p,v]:=by
 refine⟨h.lt,λi u a=>?_,λi c=>?_⟩
 .match i,a with
  | 0,a=>simpa[World.cell?,h.hb] using a
  | 1,a=>simpa[World.cell?,h.hb] using a
 match i,c with
 | 0,_=>simp[World.frozen?,h.hb]
 | 1,_=>simp[World.frozen?,h.hb]
theorem Bd.ne(h:Bd w b p v D):v.ownBlock≠some b:=λe=>by have:=SU h.o e;omega
theorem Bd.keep(h:Bd w b p v D)(d:w.heap.size<=w'.heap.size)(c:Below 0 w w')(a:∀k,(k=b\/v.ownBlock=some k)->w'.heap[k]?=w.heap[k]?):Bd w' b p v D :=⟨(a b (.inl rfl)).E h.hb,(aj (F:=λk=>v.ownBlock=some k) h.o (λ_ e=>e)).keep w' c (λk e _=>a k (.inr e))⟩
theorem Bd.set0(h:Bd w b p v D)(u:Ra):Bd (w.setCell (Ki b 0) u) b u v D:=⟨by simp[World.setCell,Array.getElem?_modify,h.hb],BT (a:=(Ki b 0)) h.o h.ne u⟩
theorem Bd.set1{a:Ra}{c:List UInt8}(h:w.heap[b]?=some (.cells #[p,v] 56 (0,0)))(d:w.ownsRow (b+1) 5 1 a c.length (c.map uv)):Bd (w.setCell (Ki b 1) a) b p a c:=⟨by simp[World.setCell,Array.getElem?_modify,h],BT (a:=(Ki b 1)) d (λe=>by have:=SU d e;have k:b+1<=b:=this.1;omega) a⟩
theorem sH(h:Bd w b p v D)(a:p=.pointer none\/p=Dr b 0):Calls prog 40 #[Dr b 0] w λe w'=>e=Q2 (.tuple #[])/\Bd w' b (Dr b 0) v D/\w.grownBy w' (some b):=by
 rcases a with rfl|rfl
 .refine(Any.Builder_copyCheck_fresh xT kn.toX72 b w (h.row.y 0) (by simp[World.shape?,h.hb];rfl) (h.row.A 0)).J ?_
  rintro e w' ⟨rfl,rfl⟩;exact⟨z,h.set0 _,NZ (BC w (some b)) 0 _⟩
 refine(Any.Builder_copyCheck_used xT kn.toX72 b w (h.row.y 0)).J ?_
 rintro e w' ⟨rfl,rfl⟩;exact⟨z,h,BC _ _⟩
end
def qr(w c:Q9)(b:Nat)(v:Ra)(D:List UInt8):Prop:=∃a,Bd c b (Dr b 0) a D/\Fr w c (λk=>k=b\/v.ownBlock=some k)/\∀k,a.ownBlock=some k->v.ownBlock=some k\/w.heap.size<=k
theorem zP{w c a d:Q9}{b i:Nat}{v u:Ra}(f:w.grownBy c (some b))(h:c.grownBy a v.ownBlock)(j:d=a.setCell (Ki b i) u):Fr w d (λk=>k=b\/v.ownBlock=some k):=by
 have g:=NZ (BC a (some b)) i u;rw[<-j]at g;exact(ii (G:=λk=>k=b\/v.ownBlock=some k) f (λg e=>.inl (by cases e;rfl))).E ((ii (G:=λk=>k=b\/v.ownBlock=some k) h (λg e=>.inr e)).E (ii (G:=λk=>k=b\/v.ownBlock=some k) g (λg e=>.inl (by cases e;rfl))) (λ_ _ k=>k)) (λ_ _ k=>k)
theorem Ld(b:Nat)(p v:Ra)(D:List UInt8)(s:Q4)(w:Q9)(h:Bd w b p v D)(x:p=.pointer none\/p=Dr b 0)(I:D.length+s.size<=1048576):Calls prog 15 #[Dr b 0,Ow s] w λr a=>r=Q2 (.tuple #[Z (s.size:Int),.nilIface])/\qr w a b v (D++s.data.toList):=by
 obtain⟨J,o,q,t,u⟩:=uz infoByte;have l:=LE (sH h x);clear x h;go_enter func15,ntmps15;go_wp2_with fail;refine l.j.J ?_;rintro r L ⟨rfl,a,g⟩;have K:=a.lt;have F:=a.row.y 1;go_upto_region 2 with fail;refine AX ?_;refine vl (Dr b 0) (vl (Dr b 0) (vl (Dr b 0) (vl (Dr b 1) (vl v (vl (Ow s) ?_)))));simp only[PS];obtain⟨P,j,y,i,c,m⟩:=If L (b+1) 22 9 22 5 J underlying22 underlying9 o q t u v D.length _ a.o s I d;obtain⟨B,C,rfl⟩:=YC i;refine vO z _ _ 22 9 z z z _ _ y ?_;simp only[PS];have n:=(c.block b K (λe=>a.ne e.symm)).E a.hb;have f:Row j b [Dr b 0,v]:=a.row.V c (λe=>a.ne e.symm);have M:=f.y 1;have N:=f.A 1;have O:=f.lt;have A:j.ownsRow (b+1) 5 1 (Y B (D.length+s.size) C) (D++s.data.toList).length ((D++s.data.toList).map uv):=by rw[AK,DC,<-Ab];exact i
 have E:=LE (show qr w (j.setCell (Ki b 1) (Y B (D.length+s.size) C)) b v (D++s.data.toList) from⟨_,Bd.set1 n A,zP g c z,λk G=>(m k G).imp id (λe=>by rw[e];exact g.size)⟩);clear y i A c m n f F g a l o q t u;go_wp2;refine H (v:=.tuple #[Z (s.size:Int),.nilIface]) (by simp[results,results15,go_sem]) z ?_;exact⟨z,E.j⟩
theorem L3(b:Nat)(v:Ra)(D:List UInt8)(w:Q9)(h:Bd w b (Dr b 0) v D)(P:D.length+1<=1048576):Calls prog 17 #[Dr b 0,.int .u8 10] w λr a=>r=Q2 .nilIface/\qr w a b v (D++[10]):=by
 obtain⟨L,y,A,B,C⟩:=uz infoByte;have t:=LE (sH h (.inr z));clear h;go_enter func17,ntmps17;go_wp2_with fail;refine t.j.J ?_;rintro r f ⟨rfl,a,p⟩;have M:=a.lt;have K:=a.row.y 1;go_upto_region 2 with fail;refine AX ?_;refine vl (Dr b 0) (vl (Dr b 0) (vl (Dr b 0) (vl (Dr b 1) (vl v (vl (.int .u8 10) ?_)))));simp only[PS];refine ko z (Y (Hw f.heap.size 0) 1 1) (f.alloc (.cells #[.int .u8 10] 5)) l ?_;simp only[PS];refine wpList_append_lies _ z _ _ 22 z (b+1) 5 L (.int .u8 0) 1 1 underlying22 y A B C z d v D.length _ z (a.o.alloc _) (Ki f.heap.size 0) 1 1 [.int .u8 10] z z (World.news_of_block (AV f _)) (by simp[Value.oneCell']) d (by unfold maxLen;omega) d q (f.heap.size+1) j ?_
 intro s E o F g u J;simp only[PS];have c:=LH f (.cells #[.int .u8 10] 5);have i:f.grownBy o v.ownBlock:=⟨g.os.E c.os,g.tape.E c.tape,g.output.E c.output,AJ c.size g.size,λk m e=>(g.block k (AC m c.size) e).E (c.block k m)⟩;have x:=(i.block b M (λe=>a.ne e.symm)).E a.hb;have n:Row o b [Dr b 0,v]:=a.row.V i (λe=>a.ne e.symm);have N:=n.y 1;have O:=n.A 1;have Q:=n.lt;have G:o.ownsRow (b+1) 5 1 (Y (Hw s 0) (D.length+1) E) (D++[10]).length ((D++[10]).map uv):=by rw[AK,DC];exact F
 have I:=LE (show qr w (o.setCell (Ki b 1) (Y (Hw s 0) (D.length+1) E)) b v (D++[10]) from⟨_,Bd.set1 x G,zP p i z,λk m=>by have e:s=k:=BQ m;subst e;exact u.imp id (λe=>by have:=p.size;omega)⟩);clear F G g i u x n K p a t y A B C c J;go_wp2;refine H (v:=.nilIface) (by simp[results,results17,go_sem]) z ?_;exact⟨z,I.j⟩
theorem Cw(b:Nat)(p v:Ra)(D:List UInt8)(w:Q9)(h:Bd w b p v D)(l:p=.pointer none\/p=Dr b 0):Calls prog 18 #[Dr b 0] w λr i=>r=Q2 (Ow ⟨D.toArray⟩)/\Below b w i:=by
 have m:w.ownsRowF b 5 1 v (Lib.byteCells D).length (Lib.byteCells D):=World.ownsRowF_of (by rw[Lib.byteCells_length];exact⟨h.o.1,h.o.2.imp id (λ⟨g,a,c,j,n,r⟩=>⟨g,a,c,j,d,r⟩)⟩);have f:Lib.BuilderAtF 56 5 b b p (Lib.byteCells D) w:=⟨C,v,h.hb,m,h.ne⟩;refine(B5 b b D w (l.elim (λe=>.inl (by rw[<-e];exact f)) (λe=>.inr (by subst e;exact f))) (KF h.lt)).J ?_;rintro e i ⟨rfl,-,k,-⟩;exact⟨z,k⟩
end
section
open Tryz
open Go.RowKit nw
structure SiN(w wr:Q9)(B g M bb:Nat)(ls:List Q4)(k:Nat)(p v:Ra)(G:Nat->Prop)(q:Wp)(a:Q5)(c:Nat):Prop where
 D:DkI wr B (UU PY (ls.take k)) G q a c
 gs:∀b,G b->b<wr.heap.size
 gl:∀b,G b->w.heap.size<=b
 gg:¬G g
 gm:¬G M
 gb:¬G bb
 gv:∀x,v.ownBlock=some x->¬G x
 bd:Bd wr bb p v (SQ PY (ls.take k))
 hp:p=.pointer none\/p=Dr bb 0
 m:CmM wr B M UI
 r:Row wr g (ls.map Value.string)
 b:Q3 w wr
def sV(w wr:Q9)(B g M b:Nat)(d:List Q4)(k:Nat):Prop:=∃p v G q a c,SiN w wr B g M b d k p v G q a c
theorem mZ{w v u:Q9}{G:Nat->Prop}(h:Q3 w v)(f:Fr v u G)(a:∀b,G b->w.heap.size<=b):Q3 w u:=h.E ⟨f.os,f.tape,f.output,f.size,λb c=>f.block b (AC c h.size) (λk=>by have:=a b k;omega)⟩
theorem SiN.next{w wr f z t:Q9}{B g M d:Nat}{j:List Q4}{k:Nat}{p v r y:Ra}{G:Nat->Prop}{q R:Wp}{a F:Q5}{c J:Nat}{s:Q4}{P:Dk×Q4}(h:SiN w wr B g M d j k p v G q a c)(L:j.take (k+1)=j.take k++[s])(K:P=OX (UU PY (j.take k)) s)(W:g<d)(X:M<d)(aF:w.heap.size<=d)
  (T:DkI f B P.1 (PO wr f G) R F J)(m:Fr wr f G)
  (S:Bd z d (Dr d 0) r (SQ PY (j.take k)++P.2.data.toList))(i:Fr f z (λx=>x=d\/v.ownBlock=some x))(h3:∀x,r.ownBlock=some x->v.ownBlock=some x\/f.heap.size<=x)
  (B4:Bd t d (Dr d 0) y (SQ PY (j.take k)++P.2.data.toList++[10]))(o:Fr z t (λx=>x=d\/r.ownBlock=some x))(h4:∀x,y.ownBlock=some x->r.ownBlock=some x\/z.heap.size<=x):SiN w t B g M d j (k+1) (Dr d 0) y (PO wr f G) R F J:=by
 have lb:=h.bd.lt
 have D:∀x,v.ownBlock=some x->d+1<=x/\x<wr.heap.size:=λx e=>SU h.bd.o e
 have u:∀x,x<wr.heap.size->¬G x->¬PO wr f G x:=λx l n b=>by rcases b with b|b;exact n b;omega
 have E:∀x,PO wr f G x->x<f.heap.size:=λx b=>by rcases b with b|b;exact AC (h.gs x b) m.size;exact b.2
 have lG:∀x,PO wr f G x->w.heap.size<=x:=λx b=>by rcases b with b|b;exact h.gl x b;exact AJ h.b.size b.1
 have C:=u d lb h.gb
 have O:∀x,v.ownBlock=some x->¬PO wr f G x:=λx e=>u x (D x e).2 (h.gv x e)
 have I:∀x,r.ownBlock=some x->¬PO wr f G x:=λx e b=>by rcases h3 x e with e|e;exact O x e b;have:=E x b;omega
 have aE:∀x,y.ownBlock=some x->¬PO wr f G x:=λx e b=>by rcases h4 x e with e|e;exact I x e b;have:=E x b;have:=i.size;omega
 have U:=T.step i.b0 (λx b l=>i.block x l (λe=>by rcases e with e|e;exact C (e ▸ b);exact O x e b));have V:=U.step o.b0 (λx b l=>o.block x l (λe=>by rcases e with e|e;exact C (e ▸ b);exact I x e b));have N:=h.m.lt;have A:=h.r.lt
 have Q:∀x,r.ownBlock=some x->d+1<=x:=λx e=>(SU S.o e).1
 have H:∀x,x<wr.heap.size->¬G x->x<d->t.heap[x]?=wr.heap[x]?:=λx l n lt=>(o.block x (AC l (AJ m.size i.size)) (λe=>by rcases e with e|e;omega;have:=Q x e;omega)).E ((i.block x (AC l m.size) (λe=>by rcases e with e|e;omega;have:=(D x e).1;omega)).E (m.block x l n))
 have l:wr.heap.size<=t.heap.size:=AJ m.size (AJ i.size o.size);refine⟨by rw[L,nZ,<-K];exact V,λx b=>AC (E x b) (AJ i.size o.size),lG,u g A h.gg,u M N h.gm,C,aE,by rw[L,xa,<-K,<-BY];exact B4,.inr rfl,h.m.keep (H M N h.gm X),VM h.r (H g A h.gg W) (AC A l),?_⟩;refine mZ (mZ (mZ h.b m h.gl) i (λx e=>?_)) o (λx e=>?_)
 .rcases e with e|e
  .omega
  have:=(D x e).1;omega
 rcases e with e|e
 .omega
 have:=Q x e;omega
theorem Eb(t:Q4)(w:Q9)(hv:Vz w):Calls prog 5 #[Ow t] w λr w'=>r=Q2 (Ow (Xw3 t))/\Q3 w w':=by
 by_cases R:t.size<=20000
 rotate_left
 .have e2:(20000:Int)<(t.size:Int):=d
  have m:Hid (Xw3 t=⟨#[116,111,111,32,108,111,110,103,10]⟩):=LE (by unfold Xw3;rw[G (.inl d)]);clear R;go_enter func5,ntmps5;go_wp2;refine AE (v:=Ow ⟨#[116,111,111,32,108,111,110,103,10]⟩) (by simp[results,results5,go_sem]) z ?_;rw[m.j];exact⟨z,AB⟩
 have X:=LE (Df t w R);have HV:=LE hv;obtain⟨c,Q⟩:=u (WP t);have aP:Hid (∀s∈c,s.size<=20000):=LE (λs k=>t8 R (by rw[<-Q];exact k));have m:Hid (Xw3 t=if 400<c.length then ⟨#[116,111,111,32,108,111,110,103,10]⟩ else ⟨(SQ PY c).toArray⟩):=LE (by unfold Xw3;rw[<-Q];by_cases k:400<c.length;rw[G (.inr k),G k];rw[AF (λe=>by rcases e with e|e;omega;exact k e),AF k];rfl);rw[<-Q]at X;have e2:¬((20000:Int)<(t.size:Int)):=d
 clear Q hv R;go_enter func5,ntmps5;go_wp2_with fail;refine X.j.J ?_;rintro r F ⟨cap,rfl,rG,hb⟩;have bB:=LE rG;have n:=LE hb;have lg:=rG.lt;clear X rG hb
 by_cases i:400<c.length
 .have e3:(400:Int)<(c.length:Int):=d
  rw[G i]at m;clear i;go_wp2;refine AE (v:=Ow ⟨#[116,111,111,32,108,111,110,103,10]⟩) (by simp[results,results5,go_sem]) z ?_;rw[m.j];exact⟨z,n.j⟩
 have e3:¬((400:Int)<(c.length:Int)):=d
 rw[AF i]at m;have bY:c.length<=400:=d
 clear i;have CN:=LE (show Calls prog 13 #[Z 40,Z 8] F λe w1=>mi F w1 e (NU 40 8) from(nw_i 40 8 F).J (λe w1 k=>uu k));go_wp2_with fail;refine CN.j.J ?_;rintro r w3 ⟨q,rfl,hW,aR,aQ⟩;rw[show NU 40 8=US 40 8 from G δ]at hW aR⊢;have HW:=LE hW;have y:=LE aQ;have aW:=LE aR;have bZ:=AC lg aQ.size;clear CN hW aQ aR;unfold MD;go_upto_region 7 with fail;generalize aD:w3.alloc _=j;obtain⟨O,z4,b4⟩:=LP aD
 have D4:DkI j w3.heap.size PY (λb=>F.heap.size<=b/\b<j.heap.size) q none 0:=⟨⟨b4.q,((HW.j.I O).J (λb l k=>⟨⟨k.1,l⟩,by have:=k.2;omega,λe=>by cases e⟩)),BU _ _ _ _,⟨y.j.size,d⟩,λb k=>by cases k⟩,aW.j⟩
 have A:=LE D4;have aZ:=LE ((bB.j.I y.j).I O);have K:=LE ((n.j.E (y.j.J n.j.size)).E (O.J (AJ n.j.size y.j.size)));obtain⟨B,bF⟩:=u w3.heap.size;rw[<-bF]at A⊢;have bP:w.heap.size<B:=d
 have bJ:j.heap.size=B+1:=d
 have aX:=LE (AG bP bJ);have CM:=LE (Gb B j);clear aD O z4 b4 D4 bF HW bB y aW bZ bP bJ;go_wp2_with fail;refine CM.j.J ?_;rintro r g ⟨rfl,aT,bG⟩;have H:=LE aT;have L:=LE bG;have l5:j.heap.size<g.heap.size:=aT.lt;clear CM aT bG;go_upto_region 9 with fail;generalize J:g.alloc _=T;have C:Hid (T.heap[g.heap.size]?=some (.cells #[.pointer none,Y none 0 0] 56 (0,0))):=LE (by rw[<-J];exact AV g _);have E:Q3 g T:=by rw[<-J];exact LH g _
 have z6:T.heap.size=g.heap.size+1:=by rw[<-J];simp
 obtain⟨h,bI⟩:=u g.heap.size;obtain⟨M,hM⟩:=u j.heap.size;rw[<-bI]at C⊢;rw[<-hM]at H⊢;have bC:Hid (sV w T B w.heap.size M h c 0):=LE ⟨.pointer none,Y none 0 0,λb=>F.heap.size<=b/\b<j.heap.size,q,none,0,⟨(A.j.I L.j).I E,λb k=>by have:=k.2;omega,λb k=>AJ n.j.size k.1,λk=>by have:=k.1;omega,λk=>by have:=k.2;omega,λk=>by have:=k.2;omega,λx e=>(by cases e),⟨C.j,BU _ _ _ _⟩,.inl z,H.j.keep (E.block M d),(aZ.j.I L.j).I E,(K.j.E (L.j.J K.j.size)).E (E.J (by have:=K.j.size;omega))⟩⟩;have bV:M<h:=d
 have bW:w.heap.size<h:=by have:=aX.j;omega
 clear J E z6 bI hM C H L l5 A aZ K aX n;go_wp2_with fail;go_loopw [24] (λiv wr=>∃k:Nat,k<=c.length/\iv=Z (k:Int)/\sV w wr B w.heap.size M h c k) (λiv _=>c.length-(intOf iv).toNat)
 case atStart=>exact⟨0,AL,z,bC.j⟩
 case round =>
  clear bC;obtain⟨k,hk,rfl,p,v,a,q1,a1,c1,hN⟩:=hrel;have f:=LE hN;clear hN
  by_cases aS:k<c.length
  .obtain⟨s,S⟩:=u (c[k])
   have ck:wr.cell? (Ki w.heap.size k)=some (Ow s):=by rw[S];exact f.j.r.cell k _ (by rw[FO,AO aS];rfl)
   have cA:=f.j.r.lt;have cE:(k:Int)<(c.length:Int):=d
   have cC:(0:Int)<=(k:Int):=d
   have aU:=(rj (c.take k) PY 0 pB (λs k=>aP.j s (DR k))).J (m:=1000) (by rw[AZ];omega);have aY:=LE (tz bY aP.j k);obtain⟨P,hP⟩:=u (OX (UU PY (c.take k)) s);have I:=LE (nP aU AA s);have aV:=HV.j.sz;have V:=LE (Pf s (UU PY (c.take k)) B a q1 a1 c1 M wr f.j.D aU (λb k=>⟨by have:=f.j.gl b k;omega,f.j.gs b k⟩) (HV.j.I f.j.b) f.j.m (aP.j s (by rw[S];exact FU aS)));rw[<-hP]at V I;have bT:Hid (c.take (k+1)=c.take k++[s]):=LE (by rw[List.take_add_one,AO aS,S];rfl);have HP:=LE hP;clear S aU hP aV;go_wp2_with fail;refine V.j.J ?_;rintro r u2 ⟨rfl,⟨q2,a2,c2,D2⟩,o⟩;have bE:=f.j.bd.keep o.size o.b0 (λx e=>o.block x (by rcases e with e|e;rw[e];exact f.j.bd.lt;exact(SU f.j.bd.o e).2) (λkk=>by rcases e with e|e;rw[e]at kk;exact f.j.gb kk;exact f.j.gv x e kk))
   have D:=LE (AG D2 o);have CW:=LE (Ld h p v _ P.2 u2 bE f.j.hp (by have:=aY.j;have:=I.j;omega));clear V D2 o bE ck cA;go_wp2_with fail;refine CW.j.J ?_;rintro r u3 ⟨rfl,v3,U,F3,h3⟩;have N:=LE (AG U (AG F3 h3));have CB:=LE (L3 h v3 _ u3 U (by have:=aY.j;have:=I.j;rw[AK];have e:P.2.data.toList.length=P.2.size:=z;omega));clear CW U F3 h3;go_wp2_with fail;refine CB.j.J ?_;rintro r u4 ⟨rfl,cF,B4,F4,i⟩;have bU:=LE (f.j.next bT.j HP.j bW bV d D.j.1 D.j.2 N.j.1 N.j.2.1 N.j.2.2 B4 F4 i);clear CB B4 F4 i D N f;go_wp2;exact⟨⟨k+1,d,ν,_,_,_,_,_,_,bU.j⟩,by simp[intOf];omega⟩
  obtain rfl:k=c.length:=d
  have W:=LE (Cw h p v _ wr f.j.bd f.j.hp);rw[DG]at W;have bQ:=LE f.j.b;clear f;go_wp2_with fail;refine W.j.J ?_;rintro r u5 ⟨rfl,bH⟩;have bR:=LE (bQ.j.E (bH.J d));clear W bH;go_wp2;refine AE (v:=Ow ⟨(SQ PY c).toArray⟩) (by simp[results,results5,go_sem]) z ?_;rw[m.j];exact⟨z,bR.j⟩
end
section
open Tryz
open Go.RowKit nw
theorem Lw(t:Q4):∃n,WP t=(MO 10 t).take n/\n<=(MO 10 t).length/\(WP t).length=n/\((MO 10 t).getD ((MO 10 t).length-1) empty=empty->n=(MO 10 t).length-1)/\(¬(MO 10 t).getD ((MO 10 t).length-1) empty=empty->n=(MO 10 t).length):=by
 unfold WP
 split
 .rename_i h
  exact⟨(MO 10 t).length-1,List.dropLast_eq_take,d,by rw[List.length_dropLast],λ_=>z,λk=>absurd h k⟩
 rename_i h
 exact⟨(MO 10 t).length,by rw[DG],C,z,λk=>absurd k h,λ_=>z⟩
theorem I0(t:Q4)(w:Q9):Calls prog 6 #[Ow t] w λr a=>r=Q2 (Ow (Xw3 t))/\Q3 w a:=by
 by_cases h1:t.size<=20000
 rotate_left
 .have e1:¬((t.size:Int)<=20000):=d
  have S:(20000:Int)<(t.size:Int):=d
  have K:Hid (Xw3 t=⟨#[116,111,111,32,108,111,110,103,10]⟩):=LE (by unfold Xw3;rw[G (.inl d)]);clear h1;go_enter func6,ntmps6;go_wp2;refine AE (v:=Ow ⟨#[116,111,111,32,108,111,110,103,10]⟩) (by simp[results,results6,go_sem]) z ?_;rw[K.j];exact⟨z,LH _ _⟩
 have h:=LE (λa=>show Calls prog 19 #[Ow t,.int .u8 10] a _ from qF t 10 a d)
 obtain⟨n,y,F,f,i,p⟩:=Lw t;have B:=rn 10 t;have x:=nf 10 t;obtain⟨o,a⟩:=u (WP t);have j:Hid (∀s∈o,s.size<=20000):=LE (λs k=>t8 h1 (by rw[<-a];exact k));have K:Hid (Xw3 t=if 400<o.length then ⟨#[116,111,111,32,108,111,110,103,10]⟩ else ⟨(SQ PY o).toArray⟩):=LE (by unfold Xw3;rw[<-a];by_cases k:400<o.length;rw[G (.inr k),G k];rw[AF (λe=>by rcases e with e|e;omega;exact k e),AF k];rfl);have E:Hid (o.map Value.string=((MO 10 t).map Value.string).take n):=LE (by rw[a,y,GT]);obtain⟨m,v⟩:∃m,(MO 10 t).length=m+1:=⟨(MO 10 t).length-1,d⟩;rw[<-a]at f;rw[v]at i p F x;obtain⟨la,g⟩:=u ((MO 10 t).getD m empty);have c:=LE (AG i p);simp only[JF]at c;rw[<-g]at c;have D:=LE g;have b:=LE v;have Q:m<=20000:=d
 have V:IntKind.i64.wrap (m:Int)=(m:Int):=PT _ d d;have e1:(t.size:Int)<=20000:=d
 have S:¬((20000:Int)<(t.size:Int)):=d
 have R:(m:Int)<(m:Int)+1:=d
 have P:(0:Int)<=(m:Int):=d
 clear y B x a g v i p;go_enter func6,ntmps6;go_upto_if 10 with fail;generalize a:w.alloc _=v1;obtain⟨g,i,-⟩:=LP a;have y:=LE g;clear a g i;go_cut [3] from 11 to 24 (λi a=>∃g x,i=Y (Hw g 0) o.length x/\Row a g (o.map Value.string)/\Q3 w a)
 case first =>
  go_wp2_with fail;refine(h.j v1).J ?_;rintro r T ⟨v,rfl,p,M⟩;obtain⟨g,x,O,L,N,-,J,-⟩:=p.2.resolve_left (λk=>by have:=k.2;have:=b.j;omega);subst L;have a:=UA p;have lg:=a.lt;have U:T.cell? (Ki g m)=some (Ow la):=by rw[D.j];exact a.cell m _ (by rw[FO,AO (by have:=b.j;omega)];simp[List.getD,AO (show m<(MO 10 t).length by have:=b.j;omega)])
  have B:=LE (y.j.E (M.J y.j.size));have i:Hid (Row T g (o.map Value.string)):=LE (by rw[E.j];exact Cb a n);rw[b.j]at J⊢;have W:(m:Int)<=(x:Int):=d
  clear p a M h N
  by_cases a:la=⟨([]:List UInt8).toArray⟩
  .have e3:=VR (l:=[]) a
   have p:n=m:=c.j.1 (by rw[a];rfl);subst p;clear a;go_wp2_with fail;go_meet;exact⟨g,x,by rw[f],i.j,B.j⟩
  have e3:=VL (l:=[]) a
  have p:n=m+1:=c.j.2 (λk=>a k);subst p;clear a;go_wp2_with fail;go_meet;exact⟨g,x,by rw[f],i.j,B.j⟩
 case rest =>
 obtain⟨g,x,rfl,a,p⟩:=hcut
 rename World=>U
 have i:=LE a;have O:=LE p;have lg:=a.lt;clear a p y h c D b E V R P F f Q
 by_cases a:400<o.length
 .have e3:(400:Int)<(o.length:Int):=d
  rw[G a]at K;clear a;go_wp2;refine AE (v:=Ow ⟨#[116,111,111,32,108,111,110,103,10]⟩) (by simp[results,results6,go_sem]) z ?_;rw[K.j];exact⟨z,O.j⟩
 have e3:¬((400:Int)<(o.length:Int)):=d
 rw[AF a]at K;have dB:o.length<=400:=d
 clear a;have f:=LE (show Calls prog 20 #[Z 40,Z 8] U λe T=>mi U T e (NU 40 8) from(nw_s 40 8 U).J (λe T k=>uu k));go_wp2_with fail;refine f.j.J ?_;rintro r w3 ⟨h,rfl,c,-,b⟩;rw[show NU 40 8=US 40 8 from G δ]at c⊢;have p:=LE c;have a:=LE b;have F:=AC lg b.size;clear f c b;unfold MD;go_upto_region 9 with fail;generalize v:w3.alloc _=N;obtain⟨D,J,y⟩:=LP v
 have c:DkN N w3.heap.size PY (λb=>U.heap.size<=b/\b<N.heap.size) h none 0:=⟨y.q,((p.j.I D).J (λb f k=>⟨⟨k.1,f⟩,by have:=k.2;omega,λe=>by cases e⟩)),BU _ _ _ _,⟨a.j.size,d⟩,λb k=>by cases k⟩
 have bQ:=LE c;have cW:=LE ((i.j.I a.j).I D);have bI:=LE ((O.j.E (a.j.J O.j.size)).E (D.J (AJ O.j.size a.j.size)));obtain⟨B,E⟩:=u w3.heap.size;rw[<-E]at bQ⊢;have lB:B<N.heap.size:=d
 have eI:g<B:=d
 clear v D J y c E p i a F;obtain⟨i0,a,c,i,p⟩:=uz infoByte;have E:=LE (AG a (AG c (AG i p)));clear a c i p;go_wp2_with fail;go_loopw [5,6] (λc a wr=>∃k:Nat,k<=o.length/\a=Z (k:Int)/\Fg w wr B g o k c) (λ_ a _=>o.length-(intOf a).toNat)
 case atStart =>
  refine⟨0,AL,z,N.heap.size,0,λb=>U.heap.size<=b/\b<N.heap.size,h,none,0,z,?_⟩;have a:=LH N (.cells #[] 5);exact⟨bQ.j.I a,λb k=>AC k.2 a.size,λb k=>AJ O.j.size k.1,λk=>by have:=k.1;omega,λk=>by have:=k.2;omega,DH _ #[] 0 d σ σ,cW.j.I a,bI.j.E (a.J bI.j.size)⟩
 case round =>
  obtain⟨k,hk,rfl,F,oc,c,q1,a1,c1,rfl,a⟩:=hrel;have v:=LE a;clear a
  by_cases bB:k<o.length
  .obtain⟨s,i⟩:=u (o[k])
   obtain⟨dk,a⟩:=u (UU PY (o.take k));obtain⟨L,hL⟩:=u (SQ PY (o.take k));have ck:wr.cell? (Ki g k)=some (Ow s):=by rw[i];exact v.j.r.cell k _ (by rw[FO,AO bB];rfl)
   have bH:=v.j.r.lt;have eH:(k:Int)<(o.length:Int):=d
   have eG:(0:Int)<=(k:Int):=d
   have p:=(rj (o.take k) PY 0 pB (λs k=>j.j s (DR k))).J (m:=1000) (by rw[AZ];omega);have cA:=tz dB j.j k;have P:=LE (nP p AA s);have D:=LE (Fs s (UU PY (o.take k)) B c q1 a1 c1 wr v.j.D p v.j.gs (j.j s (by rw[i];exact FU bB)));have y:o.take (k+1)=o.take k++[s]:=by rw[List.take_add_one,AO bB,i];rfl
   have C:Hid (SQ PY (o.take (k+1))=L++((OX dk s).2.data.toList++[10])):=LE (by rw[y,xa,<-hL,<-a]);have bP:Hid (UU PY (o.take (k+1))=(OX dk s).1):=LE (by rw[y,nZ,<-a]);have J:=LE v.j.o;rw[<-hL]at J cA⊢;rw[<-a]at D P;clear p i a y;go_upto_region 13 with fail;refine AX ?_;refine vl (Y (Hw F 0) L.length oc) (vl (Dr B 0) (vl (Y (Hw g 0) o.length x) (vl (Z (k:Int)) (vl (Dr g k) (vl (Ow s) ?_)))));simp only[PS];go_wp2_with fail;refine D.j.J ?_;rintro r u2 ⟨rfl,⟨q2,a2,c2,V⟩,y⟩;obtain⟨p,a⟩:=u (OX dk s);rw[<-a]at V C bP P⊢;clear a D
   try simp only[PS]
   refine‹∀(a:Act) (w:Q9),wpList _ _ _ _ a w->_› _ _ ?_
   have D:=(aj (F:=λb=>¬c b) J.j (λb i=>by cases i;exact v.j.go)).keep u2 y.b0 (λb M f=>y.block b f M);have eB:=(SU J.j (b:=F) z).2
   have gG:¬PO wr u2 c g:=λi=>by rcases i with i|i;exact v.j.gg i;omega
   have oG:¬PO wr u2 c F:=λi=>by rcases i with i|i;exact v.j.go i;omega
   have l:∀b,PO wr u2 c b->b<u2.heap.size:=λb i=>by rcases i with i|i;exact AC (v.j.gs b i) y.size;exact i.2
   have cP:=VM v.j.r (y.block g bH v.j.gg) (AC bH y.size);have H:Q3 w u2:=v.j.b.E ⟨y.os,y.tape,y.output,y.size,λb M=>y.block b (AC M v.j.b.size) (λi=>absurd (v.j.gl b i) d)⟩
   have lG:∀b,PO wr u2 c b->w.heap.size<=b:=λb i=>by rcases i with i|i;exact v.j.gl b i;exact AJ v.j.b.size i.1
   have dU:=V.r.lt;obtain⟨f,c3,u3,R,q,Q,bU⟩:=xA u2 (B+1) 22 9 22 5 i0 underlying22 underlying9 E.j.1 E.j.2.1 E.j.2.2.1 E.j.2.2.2 F L.length oc _ D p.2 (by have:=P.j;omega) d;have D3:=uS V Q oG
   have A:¬PO wr u2 c f:=λi=>by rcases bU with e|e;rw[e]at i;exact oG i;have:=l f i;omega
   have cQ:=cP.V Q (λe=>by have S:g=F:=BQ e;have:=(SU J.j (b:=F) z).1;omega);have eE:=v.j.gl B v.j.D.gB;have W:=H.E (MU Q H.size (λI e=>by have S:F=I:=BQ e;have:=(SU J.j (b:=F) z).1;omega));have dP:=Q.size;refine vO z _ _ 22 9 z z z _ _ R ?_;simp only[PS];clear R D;refine ko z (Y (Hw u3.heap.size 0) 1 1) (u3.alloc (.cells #[.int .u8 10] 5)) γ ?_;simp only[PS];refine wpList_append_lies _ z _ _ 22 z (B+1) 5 i0 (.int .u8 0) 1 1 underlying22 E.j.1 E.j.2.1 E.j.2.2.1 E.j.2.2.2 z d (Y (Hw f 0) (L.length+p.2.size) c3) (L.length+p.2.size) _ z (q.alloc _) (Ki u3.heap.size 0) 1 1 [.int .u8 10] z z (World.news_of_block (AV u3 _)) (by simp[Value.oneCell']) d (by have:=P.j;unfold maxLen;omega) (by have:=P.j;omega) τ (u3.heap.size+1) σ ?_
   intro X c5 u5 aO R bV dZ;have D:=LH u3 (.cells #[.int .u8 10] 5);have D5:=uS (D3.I D) R A
   have bW:¬PO wr u2 c X:=λi=>by rcases bV with e|e;cases e;exact A i;have:=l X i;omega
   have l3:=(SU q (b:=f) z).1;have cS:=(cQ.I D).V R (λe=>by have S:g=f:=BQ e;omega);have bY:=(W.E (D.J W.size)).E (MU R (AJ W.size D.size) (λI e=>by have S:f=I:=BQ e;omega));have dR:=R.size;have dQ:=D.size;have I:(SQ PY (o.take (k+1))).length=L.length+p.2.size+1:=by rw[C.j,AK,AK,<-KU];rfl
   have HF:Hid (SsN w u5 B g o (k+1) X c5 (PO wr u2 c) q2 a2 c2):=LE ⟨by rw[bP.j];exact D5,λb i=>by have:=l b i;omega,lG,gG,bW,by rw[I,C.j,DC,DC,<-Ab,<-BY];exact aO,cS,bY⟩;have b:=LE I;clear q Q bU V D3 D5 y aO R bV dZ cP cQ cS H W bY gG oG l lG A bW D I dP dQ dR ck bH l3 eB cA dU eE J v
   try simp only[PS]
   go_wp2;exact⟨⟨k+1,d,ν,X,c5,_,q2,a2,c2,by rw[b.j],HF.j⟩,by simp[intOf];omega⟩
  obtain rfl:k=o.length:=d
  have b:=mg v.j.o;have a:=LE v.j.b;rw[DG]at b⊢;clear v;go_wp2;refine AE (v:=Ow ⟨(SQ PY o).toArray⟩) (by simp[results,results6,go_sem]) z ?_;rw[K.j];exact⟨z,a.j⟩
end
section
open Tryz
open Go.RowKit
theorem VU(x y:Nat)(h:x+y<=1000000000):¬(9223372036854775807<x+y):=d
theorem mf(l:List Q4)(B:Nat)(r:∀t∈l,t.size<=B){j w:Q9}{R:Nat}{a:Q5}{n c:Nat}{q:Int}(h:Rdr w R a n c q)(s:j.grownBy w (some R))(x:q<100000000)(m:Int)(D:(l.length:Int)=m)(y:0<m)(A:Array Ra)(p:A.toList=l.map Value.string)(f:TypeId):Calls prog 8 #[Dr R 0,Z m] (w.alloc (.cells A f)) λe b=>∃(k:Nat) (t:Q4),e=Q2 (Z (k:Int))/\(k:Int)<m/\b.cell? (Ki w.heap.size k)=some (Ow t)/\t.size<=B/\w.heap.size<b.heap.size/\Rdr b R a n c (q+1)/\j.grownBy b (some R):=by
 have C:=jq h.pc;have g:=uk w (.cells A f);refine(TT R a n c q m _ (h.I g) x).J ?_;rintro e G ⟨⟨v,rfl,E,F⟩,o,b⟩;obtain⟨k,rfl⟩:∃k:Nat,v=(k:Int):=⟨v.toNat,d⟩;have u:k<l.length:=d
 have i:=(LZ w A f).V b (λe=>by injection e with e;omega);refine⟨k,l[k],z,d,i.cell k _ (by rw[p];simp[u]),r _ (FU _),i.lt,o,OE s (OE (VS _ g) b)⟩
theorem Hl(R:Nat)(a:Q5)(n c:Nat)(p:Int)(w:Q9)(h:Rdr w R a n c p)(hp:p<99990000):Calls prog 9 #[Dr R 0] w λe b=>(∃t:Q4,e=Q2 (Ow t)/\t.size<=400)/\nj w R a n c p 40 b:=by
 have W:=jq h.pc;have p0:=h.p0;go_enter func9,ntmps9;go_wp2_with fail;refine(TT R a n c p 3 _ h d).J ?_;rintro e w1 ⟨⟨v,rfl,G,H⟩,f,b⟩;have r:=LE f;have o:=LE b;clear h f b;go_upto_if 9 with fail;go_cut [3] from 10 to 27 (λm I=>∃t:Q4,m=Ow t/\t.size<=40/\nj w R a n c p 11 I)
 case first =>
  by_cases K:v=0
  .subst K
   go_wp2_with fail;refine(TT R a n c (p+1) 5 _ r.j d).J ?_;rintro e w2 ⟨⟨u,rfl,u0,u1⟩,i,g⟩;obtain⟨k,rfl⟩:∃k:Nat,u=(k:Int):=⟨u.toNat,d⟩;have l:=LE i;have j:=LE (OE o.j g);clear i g r o;go_wp2_with fail;refine(kg 1 k _ d d).J ?_;rintro e O ⟨rfl,g⟩;have L:=yu 0 k d;have f:=LE (l.j.I g);have b:=LE (OE j.j (VS _ g));generalize y0p k=D at L⊢;have P:=VU 1 D.size d;clear l j g;go_wp2_with fail;refine(TT R a n c (p+1+1) 4 _ f.j d).J ?_;rintro e J ⟨⟨u,rfl,u0,u1⟩,l,j⟩;have i:=LE l;have g:=LE (OE b.j j);clear l j f b;go_wp2;go_loopw [3,4] (λm b wr=>∃(t:Q4) (k q:Int),m=Ow t/\b=Z k/\0<=k/\k<=3/\(t.size:Int)+4*k<=40/\p<=q/\q+k<=p+11/\Rdr wr R a n c q/\w.grownBy wr (some R)) (λ_ b _=>(intOf b).toNat)
   case atStart=>exact⟨_,u,p+1+1+1,z,z,d,d,by rw[AP];show((1+_:Nat):Int)+_<=_;omega,d,d,i.j,g.j⟩
   case round =>
    obtain⟨t,k,q,rfl,rfl,V,X,T,M,N,E,C⟩:=hrel
    by_cases U:0<k
    .have Q:IntKind.i64.wrap (k-1)=k-1:=PT _ d d
     have P:=VU t.size 1 d;go_wp2_with fail;refine(mf [⟨#[48]⟩,⟨#[54,52]⟩,⟨#[50,48]⟩,⟨#[49,48,48]⟩] 3 δ E C d 4 z d _ z _).J ?_;rintro e B ⟨x,s,rfl,F,y,m,A,f,b⟩;have S:¬(9223372036854775807<(t++⟨#[32]⟩).size+s.size):=by rw[AP];show ¬(_<_+1+_);omega
     have z3:=VU (t.size+1) s.size d;have l:=LE f;have j:=LE b;clear f b E C;go_wp2;exact⟨⟨_,k-1,q+1,z,z,d,d,by simp only[AP];show((_+1+_:Nat):Int)+_<=_;omega,d,d,l.j,j.j⟩,by simp[intOf];omega⟩
    go_wp2
    go_meet;exact⟨t,z,d,⟨q,d,d,E⟩,C⟩
  go_wp2_with fail
  go_meet;exact⟨_,z,δ,⟨p+1,d,d,r.j⟩,o.j⟩
 case rest =>
  obtain⟨T,rfl,X,⟨q,M,N,i⟩,g⟩:=hcut;clear r o;go_wp2_with fail;refine(mf [⟨#[97]⟩,⟨#[98]⟩,⟨#[99]⟩,⟨#[37,48,48]⟩] 3 δ i g d 4 z d _ z _).J ?_;rintro e O ⟨x,K,rfl,F,y,V,A,k,j⟩;have f:=LE k;have b:=LE j;clear i g k j;go_wp2_with fail;refine(TT R a n c (q+1) 20 _ f.j d).J ?_;rintro e J ⟨⟨v,rfl,G,H⟩,l,j⟩;have i:=LE l;have g:=LE (OE b.j j);have U:J.heap.size>=0:=d
  clear l j f b y A;have y4:=VU 4 K.size d;have E:=VU 4 T.size d;have L:=VU 5 T.size d;have P:=VU 6 T.size d;have Q:=VU 7 T.size d
  by_cases r:v<=3
  .have hv:v=0\/v=1\/v=2\/v=3:=d
   clear G H r E L P Q
   rcases hv with rfl|rfl|rfl|rfl<;>(
    go_wp2_with fail;refine(Ko R a n c (q+1+1) _ i.j d).J ?_;rintro e B ⟨⟨s,rfl,m⟩,⟨A,r0,r1,f⟩,b⟩;have l:=LE f;have j:=LE (OE g.j b);clear f b i g;go_upto_if 44 with fail;go_cut [6] from 45 to 46 (λC I=>∃s:Q4,C=Ow s/\s.size<=100/\I=B)
    case first =>
     by_cases S:60<(s.size:Int)
     .go_wp2_with fail
      go_meet;exact⟨_,z,by rw[AQ];omega,z⟩
     go_wp2_with fail
     go_meet;exact⟨_,z,m,z⟩
    case rest =>
     obtain⟨s,rfl,m,rfl⟩:=hcut;have y5:=VU (4+K.size) 1 d;go_wp2_with fail;refine(tK s _ d).J ?_;rintro e w6 ⟨rfl,k⟩;have y:=vF m;generalize shO s=D at y⊢;have y6:=VU (4+K.size+1) D.size d;have u:=LE (l.j.I k);have o:=LE (OE j.j (VS _ k));clear l j k;go_wp2;go_ret
     exact⟨⟨_,z,by simp only[AP];show 4+_+1+_<=_;omega⟩,⟨A,d,d,u.j⟩,o.j⟩)
  by_cases k:v=14
  .subst k
   go_wp2_with fail;refine(mf [⟨#[]⟩,⟨#[32,54,52]⟩,⟨#[32,48,32,54,52,32,53]⟩] 7 δ i.j g.j d 3 z d _ z _).J ?_;rintro e B ⟨x,s,rfl,F,y,m,A,f,b⟩;have S:=VU 5 s.size d;have l:=LE f;have j:=LE b;clear f b i g;go_wp2;go_ret;exact⟨⟨_,z,by simp only[AP];show 5+_<=_;omega⟩,⟨q+1+1+1,d,d,l.j⟩,j.j⟩
  by_cases o:v=19
  .subst o
   go_wp2_with fail;refine(mf [⟨#[100,105,115,107,32,56,32,49]⟩,⟨#[100,105,115,107,32,55,32,56]⟩,⟨#[100,105,115,107,32,56,32,57]⟩,⟨#[100,105,115,107,32,49,50,32,50]⟩,⟨#[100,105,115,107,32,56]⟩,⟨#[112,117,116,32,97]⟩,⟨#[112,117,116,32,97,32,98,32,99]⟩,⟨#[112,117,116,32,32,97]⟩,⟨#[112,117,116,32,45,32,120]⟩,⟨#[103,101,116]⟩,⟨#[103,101,116,32,37,52]⟩,⟨#[111,112,101,110,32,120]⟩,⟨#[111,112,101,110,32,48,49]⟩,⟨#[102,108,117,115,104,32,49,50,51,52,53,54,55]⟩,⟨#[102,111,117,110,100,32]⟩,⟨#[114,111,111,109,32,49]⟩,⟨#[]⟩,⟨#[100,101,108]⟩,⟨#[108,111,111,107]⟩] 13 δ i.j g.j d 19 z d _ z _).J ?_;rintro e B ⟨x,s,rfl,F,y,m,A,f,b⟩;have l:=LE f;have j:=LE b;clear f b i g;go_wp2;go_ret;exact⟨⟨_,z,d⟩,⟨q+1+1+1,d,d,l.j⟩,j.j⟩
  have hv:v=4\/v=5\/v=6\/v=7\/v=8\/v=9\/v=10\/v=11\/v=12\/v=13\/v=15\/v=16\/v=17\/v=18:=d
  clear G H r k o
  rcases hv with rfl|rfl|rfl|rfl|rfl|rfl|rfl|rfl|rfl|rfl|rfl|rfl|rfl|rfl<;>(
   go_wp2;go_ret
   exact⟨⟨_,z,by(try simp only[AP]);first|(show 4+_<=_;omega)|(show 5+_<=_;omega)|(show 6+_<=_;omega)|(show 7+_<=_;omega)|decide⟩,⟨q+1+1,d,d,i.j⟩,g.j⟩)
theorem M9(a:Q5)(n c:Nat)(w:Q9)(h:Bys w a n)(M:n<=1048576)(B:n<=c):Calls prog 4 #[Y a n c] w λe b=>(∃t:Q4,e=Q2 (Ow t)/\t.size<=100000)/\Q3 w b:=by
 go_enter func4,ntmps4;go_wp2_with fail;refine(Le a n c w h M B).J ?_;rintro e y ⟨rfl,⟨m,i,f⟩,b⟩;obtain⟨R,k⟩:=nMz w.heap.size
 have l:∀j,y.grownBy j (some R)->Q3 w j:=λj g=>b.E (MU g b.size (λg e=>by injection e with e;omega))
 have r:=LE l;rw[<-k]at f⊢;have j:=LE f;clear l b h f k;go_wp2_with fail;refine(TT R a m i 0 3 _ j.j d).J ?_;rintro e w2 ⟨⟨v,rfl,D,E⟩,f,b⟩;have l:=LE f;have g:=LE b;clear f b j;go_upto_if 11 with fail;go_cut [4] from 12 to 16 (λp b=>∃t:Q4,p=Ow t/\t.size<=10/\nj y R a m i 0 3 b)
 case first =>
  by_cases q:v=0
  .subst q
   go_wp2_with fail;refine(mf [⟨#[100,105,115,107,32,56,32,49,10]⟩,⟨#[100,105,115,107,32,49,50,32,56,10]⟩,⟨#[100,105,115,107,32,49,48,32,50,10]⟩] 10 δ l.j g.j d 3 z d _ z _).J ?_;rintro e F ⟨x,s,rfl,C,B,j,A,f,b⟩;have o:=LE f;have k:=LE b;clear f b l g;go_wp2_with fail;go_meet;exact⟨s,z,j,⟨0+1+1,d,d,o.j⟩,k.j⟩
  go_wp2_with fail
  go_meet;exact⟨_,z,δ,⟨0+1,d,d,l.j⟩,g.j⟩
 case rest =>
  obtain⟨T,rfl,X,⟨q,O,C,f⟩,b⟩:=hcut;have o:=LE f;have k:=LE b;have A:=VU T.size 5 d;clear f b l g;go_wp2_with fail;refine(TT R a m i q 30 _ o.j d).J ?_;rintro e w4 ⟨⟨b,rfl,u0,u1⟩,l,f⟩;have u:IntKind.i64.wrap (6+b)=6+b:=PT _ d d;have j:=LE l;have g:=LE (OE k.j f);clear l f o k;go_wp2;go_loopw [4,5] (λp f wr=>∃(t:Q4) (k q:Int),p=Ow t/\f=Z k/\0<=k/\k<=36/\(t.size:Int)+401*k<=15000/\0<=q/\q+41*k<=2000/\Rdr wr R a m i q/\y.grownBy wr (some R)) (λ_ f _=>(intOf f).toNat)
  case atStart=>exact⟨_,6+b,q+1,z,z,d,d,by rw[AP];show((_+5:Nat):Int)+_<=_;omega,d,d,j.j,g.j⟩
  case round =>
   obtain⟨t,k,q,rfl,rfl,k0,k1,G,O,C,l,f⟩:=hrel;have x:=LE l;have p:=LE f;clear l f j g
   by_cases L:0<k
   .have H:IntKind.i64.wrap (k-1)=k-1:=PT _ d d
    go_wp2_with fail;refine(Hl R a m i q _ x.j d).J ?_;rintro e P ⟨⟨s,rfl,j⟩,⟨F,I,J,o⟩,l⟩;have A:=VU t.size s.size d;have K:¬(9223372036854775807<(t++s).size+1):=by rw[AP];omega
    have N:=VU (t.size+s.size) 1 d;have g:=LE o;have f:=LE (OE p.j l);clear o l x p;go_wp2;exact⟨⟨_,k-1,F,z,z,d,d,by simp only[AP];show((_+_+1:Nat):Int)+_<=_;omega,d,d,g.j,f.j⟩,by simp[intOf];omega⟩
   go_wp2_with fail
   refine(TT R a m i q 30 _ x.j d).J ?_;rintro e P ⟨⟨v,rfl,D,E⟩,o,l⟩;have g:=LE o;have f:=LE (OE p.j l);clear o l x p
   by_cases W:v<4
   .go_wp2_with fail
    refine(Jp R a m i (q+1) t _ g.j d d).J ?_;rintro e F ⟨⟨s,rfl,j⟩,_,l⟩;have o:=LE (r.j _ (OE f.j l));clear g f l;go_wp2;go_ret;exact⟨⟨s,z,d⟩,o.j⟩
   by_cases J:v=4
   .subst J
    go_wp2_with fail;refine(TT R a m i (q+1) 30 _ g.j d).J ?_;rintro e F ⟨⟨x,rfl,S,U⟩,j,l⟩;have I:IntKind.i64.wrap (364+x)=364+x:=PT _ d d;have p:=LE (OE f.j l);clear j l g f;go_wp2_with fail;refine(p9 _ (364+x) _ _ z (by show 5*_<=_;omega) (by show 5<=_;omega) d).J ?_;rintro e Q ⟨⟨s,rfl,j⟩,l⟩;replace j:s.size<=2000:=by rw[j];show 5*_<=_;omega
    have A:=VU t.size s.size d;have o:=LE (r.j _ (OE p.j (VS _ l)));clear p l;go_wp2;go_ret;exact⟨⟨_,z,by rw[AP];omega⟩,o.j⟩
   have N:(t.size:Int)<20000:=d
   have H:t.size<=100000:=d
   by_cases K:v=5
   .subst K
    have V:IntKind.i64.wrap (20000-(t.size:Int))=20000-(t.size:Int):=PT _ d d;go_wp2_with fail;refine(TT R a m i (q+1) 2 _ g.j d).J ?_;rintro e F ⟨⟨x,rfl,S,U⟩,j,l⟩;have I:IntKind.i64.wrap (20000-(t.size:Int)+x)=20000-(t.size:Int)+x:=PT _ d d;have p:=LE (OE f.j l);clear j l g f;go_wp2_with fail;refine(p9 _ (20000-(t.size:Int)+x) _ _ z (by show 1*_<=_;omega) (by show 1<=_;omega) d).J ?_;rintro e Q ⟨⟨s,rfl,j⟩,l⟩;replace j:s.size<=21000:=by rw[j];show 1*_<=_;omega
    have A:=VU t.size s.size d;have o:=LE (r.j _ (OE p.j (VS _ l)));clear p l;go_wp2;go_ret;exact⟨⟨_,z,by rw[AP];omega⟩,o.j⟩
   have o:=LE (r.j _ f.j);clear f g D E G L C N;go_wp2;go_ret;exact⟨⟨t,z,H⟩,o.j⟩
theorem Qk(a:Q5)(n c:Nat)(w:Q9)(h:Bys w a n)(E:n<=c)(G:n<=1048576)(hv:Vz w):Calls prog 3 #[Y a n c] w λe b=>e=Q2 (Q1 true)/\Q3 w b:=by
 have P:¬(1048576<(n:Int)):=d
 have b:=LE (M9 a n c w h G E);have l:=LE (λ(t:Q4) wx (D:Q3 w wx)=>Eb t wx (hv.I D));have m:=LE I0;clear h hv;go_enter func3,ntmps3;go_wp2_with fail;refine b.j.J ?_;rintro e I ⟨⟨T,rfl,R⟩,g⟩;have f:=LE g;clear b g;have F:∃k:Int,IntKind.i64.wrap ((n:Int) % 25)=k/\IntKind.i64.wrap ((n:Int).tmod 25)=k/\(n:Int) % 25=k/\(n:Int).tmod 25=k/\0<=k/\k<=24:=⟨(n:Int) % 25,PT _ d d,by rw[DQ d];exact PT _ d d,z,by rw[DQ d],d,d⟩;obtain⟨k,u,v,k3,x,W,X⟩:=F;go_wp2;go_loopw [4,5,6] (λg hv b wr=>∃(k:Int) (H:Q4) (i:Nat),g=Z k/\hv=Ow H/\b=Z (i:Int)/\-1<=k/\k<=24/\i<=T.size/\wr=I) (λ_ _ b _=>T.size-(intOf b).toNat)
 case atStart=>exact⟨k,T,0,z,z,z,d,d,d,z⟩
 case round =>
  obtain⟨k,H,i,rfl,rfl,rfl,V,k9,S,rfl⟩:=hrel
  by_cases p:i<T.size
  .have y:(i:Int)<(T.size:Int):=d
   have M:IntKind.i64.wrap ((i:Int)+1)=(i:Int)+1:=PT _ d d;have O:IntKind.i64.wrap (k-1)=k-1:=PT _ d d;have L:(i:Int)+1<=(T.size:Int):=d
   have K:¬((i:Int)+1<0):=d
   by_cases U:(T[i]'p).toNat=10
   .have C:((T[i]'p).toNat:Int)=10:=d
    by_cases N:k-1<0
    .have Q:((i:Int)+1).toNat=i+1:=d
     clear u v k3 x;go_wp2_with fail;refine(l.j (T.extract 0 (i+1)) _ (f.j)).J ?_;rintro e q ⟨rfl,g⟩;have b:=LE ((f.j).E (g.J (f.j).size));clear g f;go_wp2_with fail;refine(l.j T q b.j).J ?_;rintro e r ⟨rfl,o⟩;have g:=LE (b.j.E (o.J b.j.size));clear o b;go_wp2_with fail;refine(m.j (T.extract 0 (i+1)) r).J ?_;rintro e s ⟨rfl,o⟩;have b:=LE (g.j.E (o.J g.j.size));clear o g;go_wp2_with fail;refine(m.j T s).J ?_;rintro e J ⟨rfl,o⟩;have g:=LE (b.j.E (o.J b.j.size));clear o b m l;generalize Xw3 (T.extract 0 (i+1))=A;generalize Xw3 T=B
     by_cases o:(B.size:Int)<(A.size:Int)
     .go_wp2
      go_ret;exact⟨z,g.j⟩
     have b:(A.size:Int)<=(B.size:Int):=d
     cases hq:((B.extract 0 A.size).toList == A.toList)<;>(
      go_wp2;go_ret
      exact⟨z,g.j⟩)
    go_wp2
    exact⟨⟨k-1,H,i+1,z,z,j,d,d,d,by first|rfl|trivial⟩,by simp[intOf];omega⟩
   have C:¬((T[i]'p).toNat:Int)=10:=d
   go_wp2
   exact⟨⟨k,H,i+1,z,z,j,d,d,d,by first|rfl|trivial⟩,by simp[intOf];omega⟩
  have y:¬(i:Int)<(T.size:Int):=d
  clear u v k3 x;go_wp2_with fail;refine(l.j H _ (f.j)).J ?_;rintro e q ⟨rfl,g⟩;have b:=LE ((f.j).E (g.J (f.j).size));clear g f;go_wp2_with fail;refine(l.j T q b.j).J ?_;rintro e r ⟨rfl,o⟩;have g:=LE (b.j.E (o.J b.j.size));clear o b;go_wp2_with fail;refine(m.j H r).J ?_;rintro e s ⟨rfl,o⟩;have b:=LE (g.j.E (o.J g.j.size));clear o g;go_wp2_with fail;refine(m.j T s).J ?_;rintro e J ⟨rfl,o⟩;have g:=LE (b.j.E (o.J b.j.size));clear o b m l;generalize Xw3 H=A;generalize Xw3 T=B
  by_cases o:(B.size:Int)<(A.size:Int)
  .go_wp2
   go_ret;exact⟨z,g.j⟩
  have b:(A.size:Int)<=(B.size:Int):=d
  cases hq:((B.extract 0 A.size).toList == A.toList)<;>(
   go_wp2;go_ret
   exact⟨z,g.j⟩)
